"""The lines of the texts that the program reads, and the numbers in them."""

from cellguard.errors import InvalidText

DIGITS = "0123456789"
MOST_DIGITS = 7


def lines_of(text):
    """Return the list of the lines of a text, whose last line may lack its newline."""
    lines = text.split("\n")
    if lines[-1] == "":
        lines.pop()
    return lines


def is_skipped(line):
    """Tell whether a line is empty or a remark."""
    return line == "" or line.startswith("#")


def number_in(word):
    """Return the number from 1 on that a word of at most seven digits stands for, otherwise None."""
    if not 1 <= len(word) <= MOST_DIGITS or word[0] == "0":
        return None
    # int() would also take signs, underscores and the digits of other scripts.
    if not all([character in DIGITS for character in word]):
        return None
    return int(word)


def count_in(word):
    """Return the number from 0 on that a word of at most seven digits stands for, otherwise None."""
    return 0 if word == "0" else number_in(word)


class LineReader:
    """The lines of a text, which are taken one after the other."""

    def __init__(self, text):
        self._lines = lines_of(text)
        self._taken = 0

    def taken(self):
        """Return how many lines were taken; this is the number of the last one, too."""
        return self._taken

    def is_done(self):
        """Tell whether all lines were taken."""
        return self._taken == len(self._lines)

    def next_line(self):
        """Take the next line, or raise InvalidText if the text has ended too early."""
        if self.is_done():
            raise InvalidText(self._taken + 1)
        self._taken += 1
        return self._lines[self._taken - 1]

    def next_words(self):
        """Take the next line, and return its words."""
        return self.next_line().split(" ")

"""The lines of the texts that the program reads, and the numbers in them."""

DIGITS = "0123456789"
MOST_DIGITS = 7


def lines_of(text):
    """Return the list of the lines of a text, whose last line may lack its newline."""
    lines = text.split("\n")
    if lines[-1] == "":
        lines.pop()
    return lines


def is_skipped(line):
    """Tell whether a line is empty or a remark."""
    return line == "" or line.startswith("#")


def number_in(word):
    """Return the number from 1 on that a word of at most seven digits stands for, otherwise None."""
    if not 1 <= len(word) <= MOST_DIGITS or word[0] == "0":
        return None
    # int() would also take signs, underscores and the digits of other scripts.
    if not all([character in DIGITS for character in word]):
        return None
    return int(word)

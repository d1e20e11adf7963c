"""A desk that works for an office, and answers lines with lines."""

from cellguard.census import Census
from cellguard.counting import cells_of
from cellguard.errors import Refused, TooLarge
from cellguard.hiding import tight_pattern
from cellguard.lines import count_in
from cellguard.office import Office
from cellguard.ranges import cell_range

# How many words a line has, by its first one.
FORMS = {"tight": 2, "least": 2, "ask": 4, "range": 4, "log": 1}


def is_line(words):
    """Tell whether the words of a line have one of the forms that a desk knows."""
    if FORMS.get(words[0], 0) != len(words) or "" in words:
        return False
    return len(words) < 4 or count_in(words[3]) is not None


class Desk:
    """A desk for a new office."""

    def __init__(self, census, rules, *, most=14):
        self.office = Office(census, rules)
        self._census = Census(census.plan, census.records())
        self._rules = dict(rules)
        self._most = most

    def answer(self, line):
        """Return the list of the answer lines to a line."""
        words = line.split(" ")
        if not is_line(words):
            return ["what"]
        if words == ["log"]:
            return self.office.log() + ["end"]
        if len(words) == 2:
            return [self._hide(words[0], words[1])]
        return [self._tell(words[0], words[1], (words[2], count_in(words[3])))]

    def run(self, lines):
        """Return the list of the answer lines to all lines of a list."""
        answers = []
        for line in lines:
            answers.extend(self.answer(line))
        return answers

    def _hide(self, word, table):
        # The answer to `tight` or `least`.
        if table not in self._rules:
            return f"unknown {table}"
        try:
            if word == "least":
                known = self.office.release_least(table, most=self._most)
            elif table in self.office.known().tables():
                return "refused"
            else:
                pattern = tight_pattern(self._census, table, self._rules[table])
                known = self.office.release(table, pattern)
        except Refused:
            return "refused"
        except TooLarge:
            return "too large"
        return f"hidden {len(known.hidden(table))}"

    def _tell(self, word, table, cell):
        # The answer to `ask` or `range`.
        known = self.office.known()
        if table not in known.tables():
            return f"unknown {table}"
        if cell not in cells_of(self._census.plan, table):
            return "no cell"
        if word == "range":
            least, greatest = cell_range(known, table, cell)
            return f"range {least} {greatest}"
        try:
            return f"count {self.office.ask(table, cell)}"
        except Refused:
            return "refused"

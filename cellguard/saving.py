"""The texts of offices, and offices that are restored from them."""

from cellguard.counting import cells_of
from cellguard.errors import InvalidPattern, InvalidText
from cellguard.lines import LineReader, count_in
from cellguard.office import Office
from cellguard.rules import is_safe

LOG_MARK = "- "


def office_text(office):
    """Return the text of an office."""
    known = office.known()
    lines = []
    for table in known.tables():
        lines.append(f"released {table}")
        lines.extend([f"hidden {area} {number}" for area, number in known.hidden(table)])
    lines.append("log")
    lines.extend([LOG_MARK + line for line in office.log()])
    return "".join([line + "\n" for line in lines])


class ReleasedTables:
    """The released tables of the text of an office, as far as it was read."""

    def __init__(self, plan):
        self._plan = plan
        self._due = plan.tables()
        # The cells of the last table that may still come.
        self._cells = []
        self._hidden = {}

    def takes(self, words):
        """Take the words of a line, or return False if they have another form or may not stand here."""
        if len(words) == 2 and words[0] == "released":
            return self._takes_table(words[1])
        return len(words) == 3 and words[0] == "hidden" and self._takes_cell((words[1], count_in(words[2])))

    def hidden(self):
        """Return the dict from the released tables to the lists of their hidden cells."""
        return {table: list(self._hidden[table]) for table in self._hidden}

    def _takes_table(self, table):
        if table not in self._due:
            return False
        self._due = self._due[self._due.index(table) + 1:]
        self._cells = cells_of(self._plan, table)
        self._hidden[table] = []
        return True

    def _takes_cell(self, cell):
        if cell not in self._cells:
            return False
        self._cells = self._cells[self._cells.index(cell) + 1:]
        last = list(self._hidden)[-1]
        self._hidden[last].append(cell)
        return True


def read_hidden(reader, plan):
    """Return the dict from the released tables to their hidden cells, as the lines before the log give it."""
    released = ReleasedTables(plan)
    line = reader.next_line()
    while line != "log":
        if not released.takes(line.split(" ")):
            raise InvalidText(reader.taken())
        line = reader.next_line()
    return released.hidden()


def read_log(reader):
    """Return the list of the lines of the log, which are the rest of a text."""
    lines = []
    while not reader.is_done():
        line = reader.next_line()
        if not line.startswith(LOG_MARK):
            raise InvalidText(reader.taken())
        lines.append(line[len(LOG_MARK):])
    return lines


def restored_office(text, census, rules):
    """Return the office of a text, with its census and its rules."""
    office = Office(census, rules)
    reader = LineReader(text)
    hidden = read_hidden(reader, census.plan)
    lines = read_log(reader)
    for table in hidden:
        if not is_safe(census, table, rules[table], hidden[table]):
            raise InvalidPattern(f"the hidden cells of {table} are not a safe pattern")
    office.restore(hidden, lines)
    return office

"""The office, which publishes tables and answers questions, and lets no protected cell be exposed."""

from cellguard.census import Census
from cellguard.counting import cells_of, counts_of
from cellguard.errors import InvalidPattern, Refused, UnknownName
from cellguard.leastcost import least_pattern
from cellguard.publication import check_pattern, publish
from cellguard.rules import is_safe


def check_rules(plan, rules):
    """Raise UnknownName for the first name, in lexicographic order, that is a table or has a rule, but not both."""
    tables = plan.tables()
    for name in sorted(tables + list(rules)):
        if name not in tables or name not in rules:
            raise UnknownName(name)


class Office:
    """An office with a census, and a rule for each table of its plan."""

    def __init__(self, census, rules):
        check_rules(census.plan, rules)
        self._census = Census(census.plan, census.records())
        self._rules = dict(rules)
        # The cells of each released table that have been hidden in all its releases.
        self._hidden = {}
        self._lines = []

    def release(self, table, pattern):
        """Publish a table with a pattern, and return the known publication."""
        cells = cells_of(self._census.plan, table)
        check_pattern(cells, pattern)
        hidden = [cell for cell in self._hidden.get(table, cells) if cell in pattern]
        if not is_safe(self._census, table, self._rules[table], hidden):
            self._lines.append(f"refused release {table}")
            raise Refused(f"a protected cell of {table} would be exposed")
        self._hidden[table] = hidden
        self._lines.append(f"release {table} {len(pattern)}")
        return self.known()

    def release_least(self, table, *, sort="cells", most=14):
        """Publish a table with a pattern of least cost, if it has not been released."""
        if table not in self._rules:
            raise UnknownName(table)
        if table in self._hidden:
            self._lines.append(f"refused release {table}")
            raise Refused(f"{table} has been released")
        pattern, _ = least_pattern(self._census, table, self._rules[table], sort=sort, most=most)
        return self.release(table, pattern)

    def ask(self, table, cell):
        """Return the count of a cell of a released table, which is published with it."""
        if table not in self._hidden:
            raise UnknownName(table)
        counts = counts_of(self._census, table)
        if cell not in counts:
            raise InvalidPattern(f"{cell} is no cell of {table}")
        question = f"ask {table} {cell[0]} {cell[1]}"
        rest = [other for other in self._hidden[table] if other != cell]
        if cell in self._hidden[table] and not is_safe(self._census, table, self._rules[table], rest):
            self._lines.append(f"refused {question}")
            raise Refused(f"a protected cell of {table} would be exposed")
        self._hidden[table] = rest
        self._lines.append(question)
        return counts[cell]

    def known(self):
        """Return the publication of all that was ever published."""
        return publish(self._census, self._hidden)

    def log(self):
        """Return the lines that tell what was done."""
        return list(self._lines)

    def restore(self, hidden, lines):
        """Take the hidden cells of all tables that were released, safe patterns, and a log from elsewhere."""
        self._hidden = {table: list(hidden[table]) for table in hidden}
        self._lines = list(lines)

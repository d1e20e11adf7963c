"""Publications: totals, and tables in which cells are hidden."""

from cellguard.counting import cells_of, counts_of, has_keys, has_negative, totals_of
from cellguard.errors import InvalidPattern, InvalidPublication, UnknownName


def check_tables(plan, names):
    """Raise UnknownName for the first name, in lexicographic order, that is no table of a plan."""
    tables = plan.tables()
    for name in sorted(names):
        if name not in tables:
            raise UnknownName(name)


def check_numbers(numbers, keys):
    """Raise InvalidPublication if a dict has other keys than those of a list, or a negative number."""
    if not has_keys(numbers, keys):
        raise InvalidPublication("a dict does not have exactly the right keys")
    if has_negative(numbers):
        raise InvalidPublication("a number is negative")


class Publication:
    """A plan, totals, and some of the tables of the plan."""

    def __init__(self, plan, totals, tables):
        check_tables(plan, list(tables))
        check_numbers(totals, plan.areas.names())
        for table in tables:
            check_numbers(tables[table], cells_of(plan, table))
        self.plan = plan
        self._totals = {area: totals[area] for area in plan.areas.names()}
        self._tables = {}
        for table in plan.tables():
            if table in tables:
                self._tables[table] = {cell: tables[table][cell] for cell in cells_of(plan, table)}

    def totals(self):
        """Return the totals."""
        return dict(self._totals)

    def tables(self):
        """Return the names of the tables, in the order of the plan."""
        return list(self._tables)

    def cells(self, table):
        """Return the dict from the cells of a table to their counts, or None for hidden ones."""
        self._check(table)
        cells = self._tables[table]
        return {cell: cells[cell] for cell in cells}

    def hidden(self, table):
        """Return the pattern of a table."""
        self._check(table)
        cells = self._tables[table]
        return [cell for cell in cells if cells[cell] is None]

    def _check(self, table):
        if table not in self._tables:
            raise UnknownName(table)


def is_pattern(cells, pattern):
    """Tell whether a pattern is an ascending list of cells, given all cells in order."""
    places = {cell: place for place, cell in enumerate(cells)}
    last = -1
    for cell in pattern:
        # What is no cell has the place -1, which is never behind the last one.
        place = places.get(cell, -1)
        if place <= last:
            return False
        last = place
    return True


def check_pattern(cells, pattern):
    """Raise InvalidPattern if a pattern is not an ascending list of cells, given all cells in order."""
    if not is_pattern(cells, pattern):
        raise InvalidPattern("not an ascending list of cells of the table")


def published_cells(census, table, pattern):
    """Return the counts of a table, with None for the cells of a pattern."""
    cells = counts_of(census, table)
    check_pattern(list(cells), pattern)
    for cell in pattern:
        cells[cell] = None
    return cells


def publish(census, patterns):
    """Return the publication of a census with the tables of a dict from names to patterns."""
    check_tables(census.plan, list(patterns))
    tables = {table: published_cells(census, table, patterns[table]) for table in patterns}
    return Publication(census.plan, totals_of(census), tables)


def agrees(census, publication):
    """Tell whether a census of the plan of a publication agrees with it."""
    if totals_of(census) != publication.totals():
        return False
    for table in publication.tables():
        counts = counts_of(census, table)
        cells = publication.cells(table)
        if any([cells[cell] is not None and cells[cell] != counts[cell] for cell in cells]):
            return False
    return True

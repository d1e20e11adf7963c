"""A service that answers questions for hidden cells, and whose refusals tell nothing."""

from cellguard.census import Census
from cellguard.counting import counts_of
from cellguard.errors import InvalidPattern, InvalidPublication, Refused, TooLarge
from cellguard.flows import find_flow, range_from
from cellguard.linking import arc_of, network_of
from cellguard.publication import Publication, agrees
from cellguard.ranges import cell_range

MOST_COUNTS = 1000


def with_count(publication, table, cell, count):
    """Return the publication in which a cell of a table has a count."""
    tables = {name: publication.cells(name) for name in publication.tables()}
    tables[table][cell] = count
    return Publication(publication.plan, publication.totals(), tables)


def wide_cells(publication, table, cells, width):
    """Return the list of those of some cells whose range has a difference of at least a width."""
    network = network_of(publication, table)
    flow = find_flow(network)
    wide = []
    for cell in cells:
        least, greatest = range_from(network, flow, arc_of(publication.plan, table, cell))
        if greatest - least >= width:
            wide.append(cell)
    return wide


class Service:
    """A service for a publication with which a census agrees."""

    def __init__(self, census, publication, *, width):
        if not agrees(census, publication):
            raise InvalidPublication("the census does not agree with the publication")
        self._census = Census(census.plan, census.records())
        self._publication = publication
        self._width = width
        self._guarded = {}
        for table in publication.tables():
            self._guarded[table] = wide_cells(publication, table, publication.hidden(table), width)

    def guarded(self):
        """Return the list of the tuples of a table and a guarded cell of it, in order."""
        return [(table, cell) for table in self._guarded for cell in self._guarded[table]]

    def is_harmless(self, table, cell):
        """Tell whether a question for a cell is harmless."""
        self._check(table, cell)
        if self._publication.cells(table)[cell] is not None:
            return True
        if cell in self._guarded[table]:
            return False
        least, greatest = cell_range(self._publication, table, cell)
        if greatest - least >= MOST_COUNTS:
            raise TooLarge(f"the range has more than {MOST_COUNTS} counts")
        # The greatest value of an arc is a concave function of the value of another one, and the least
        # value is a convex one. So their difference is smallest at an end of the range.
        return self._keeps_guarded(table, cell, least) and self._keeps_guarded(table, cell, greatest)

    def ask(self, table, cell):
        """Return the count of a cell, which is published with it."""
        if not self.is_harmless(table, cell):
            raise Refused(f"a guarded cell of {table} could become narrow")
        count = counts_of(self._census, table)[cell]
        self._publication = with_count(self._publication, table, cell, count)
        return count

    def known(self):
        """Return the present publication."""
        tables = {table: self._publication.cells(table) for table in self._publication.tables()}
        return Publication(self._publication.plan, self._publication.totals(), tables)

    def _check(self, table, cell):
        if cell not in self._publication.cells(table):
            raise InvalidPattern(f"{cell} is no cell of {table}")

    def _keeps_guarded(self, table, cell, count):
        # Guarded cells are never told, so all of them are still hidden.
        guarded = self._guarded[table]
        told = with_count(self._publication, table, cell, count)
        return len(wide_cells(told, table, guarded, self._width)) == len(guarded)

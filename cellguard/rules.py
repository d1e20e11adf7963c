"""Rules: protected cells, the ranges that they must keep, and the cells that a pattern exposes."""

from cellguard.counting import counts_of, totals_of
from cellguard.flows import Residual
from cellguard.linking import network_of
from cellguard.publication import check_pattern, publish


def is_protected(count, rule):
    """Tell whether a cell with a count is protected."""
    threshold, down, up = rule
    return 1 <= count < threshold


def wanted_from(count, total, rule):
    """Return the wanted range of a count in an area with a total."""
    threshold, down, up = rule
    return max(0, count - down), min(total, count + up)


def protected_cells(census, table, rule):
    """Return the ascending list of the protected cells."""
    counts = counts_of(census, table)
    return [cell for cell in counts if is_protected(counts[cell], rule)]


def wanted_range(census, table, rule, cell):
    """Return the wanted range of a protected cell."""
    count = counts_of(census, table)[cell]
    return wanted_from(count, totals_of(census)[cell[0]], rule)


class Shifts:
    """How the counts of a table can be moved along hidden cells.

    The cells have the numbers of their arcs. A need is a tuple of a protected cell and a way: its count
    must be able to move up (way 1) or down (way -1) by an amount, to the end of its wanted range. The
    counts are a flow whatever is hidden, so the need is met if that amount can be moved away from the
    one end of its arc and back to the other one, along other hidden cells.
    """

    def __init__(self, census, table, rule):
        counts = counts_of(census, table)
        network = network_of(publish(census, {table: list(counts)}), table)
        self._cells = list(counts)
        self._counts = list(counts.values())
        self._arcs = network.arcs()[:len(counts)]
        self._nodes = network.nodes
        self._edges = [[] for _ in range(network.nodes)]
        self._links = Residual(network.nodes)
        for number, (tail, head, least, most) in enumerate(self._arcs):
            self._edges[tail].append((number, head, 1))
            self._edges[head].append((number, tail, -1))
            self._links.link(tail, head, 0, 0)
        self._needs = {}
        self._protected = [number for number, count in enumerate(self._counts) if is_protected(count, rule)]
        for number in self._protected:
            count = self._counts[number]
            low, high = wanted_from(count, self._arcs[number][3], rule)
            if low < count:
                self._needs[(number, -1)] = count - low
            if high > count:
                self._needs[(number, 1)] = high - count

    def cells(self):
        """Return the list of all cells."""
        return list(self._cells)

    def counts(self):
        """Return the list of the counts of all cells."""
        return list(self._counts)

    def protected(self):
        """Return the ascending list of the numbers of the protected cells."""
        return list(self._protected)

    def needs(self):
        """Return the list of the needs, in order."""
        return list(self._needs)

    def amount(self, need):
        """Return the amount of a need."""
        return self._needs[need]

    def numbers_of(self, pattern):
        """Return the list of the numbers of the cells of a pattern; raises InvalidPattern."""
        check_pattern(self._cells, pattern)
        numbers = {cell: number for number, cell in enumerate(self._cells)}
        return [numbers[cell] for cell in pattern]

    def edges(self, node):
        """Return the cells that join a node: tuples of the cell, the other node, and the way to go there."""
        return list(self._edges[node])

    def room(self, number, way):
        """Return how far the count of a hidden cell can go up (way 1) or down (way -1) by itself."""
        return self._arcs[number][3] - self._counts[number] if way == 1 else self._counts[number]

    def ends(self, need):
        """Return the node where what a need moves begins, and the node that it must reach."""
        number, way = need
        tail, head, least, most = self._arcs[number]
        return (head, tail) if way == 1 else (tail, head)

    def found(self, need, hidden):
        """Return how a need is met if the cells with the numbers of a list are hidden.

        This is a tuple of the dict from the cells to the changes of their counts, and None; or of None
        and the list of the nodes that show that the need is not met.
        """
        others = [number for number in hidden if number != need[0]]
        residual = self._residual(others, None)
        source, sink = self.ends(need)
        amount = self._needs[need]
        if residual.move(source, sink, amount) < amount:
            return None, residual.reached(source, self._nodes)
        return self._changed(need, amount, others, residual, None), None

    def moved(self, need, hidden, kept):
        """Return how far a need can be met if the cells of a list are hidden and one cell keeps a person.

        This is a tuple of the amount, which is at most that of the need, and the dict from the cells to
        the changes of their counts. The cell that keeps a person is given by its number, or is None.
        """
        others = [number for number in hidden if number != need[0]]
        residual = self._residual(others, kept)
        source, sink = self.ends(need)
        wanted = self._needs[need]
        if need == (kept, -1):
            wanted = min(wanted, self._counts[kept] - 1)
        amount = residual.move(source, sink, wanted)
        return amount, self._changed(need, amount, others, residual, kept)

    def _residual(self, others, kept):
        rooms = [0] * (2 * len(self._counts))
        for number in others:
            rooms[2 * number] = self.room(number, 1)
            rooms[2 * number + 1] = self._counts[number]
        if kept in others:
            rooms[2 * kept + 1] -= 1
        return self._links.with_rooms(rooms)

    def _changed(self, need, amount, others, residual, kept):
        # What can be moved down at last is the count, as it was changed, but for the person who is kept.
        counts = residual.rooms()[1::2]
        if kept is not None:
            counts[kept] += 1
        changes = {number: counts[number] - self._counts[number] for number in others
                   if counts[number] != self._counts[number]}
        changes[need[0]] = need[1] * amount
        return changes

    def leading_out(self, members, numbers):
        """Return those of some cells along which something could be moved out of a set of nodes."""
        inside = {node: True for node in members}
        leading = []
        for number in numbers:
            tail, head, least, most = self._arcs[number]
            way = 1 if tail in inside else -1
            if (tail in inside) != (head in inside) and self.room(number, way) > 0:
                leading.append(number)
        return leading

    def met_by(self, changes):
        """Return the list of the needs that changes of the counts meet."""
        met = []
        for number in changes:
            need = (number, 1 if changes[number] > 0 else -1)
            if need in self._needs and self._needs[need] <= abs(changes[number]):
                met.append(need)
        return met


def exposed_numbers(shifts, hidden):
    """Return the ascending list of the numbers of the exposed cells, given those of the hidden ones."""
    seen = {number: True for number in hidden}
    exposed = {number: True for number in shifts.protected() if number not in seen}
    met = {}
    for need in shifts.needs():
        if need[0] in exposed or need in met:
            continue
        changes, _ = shifts.found(need, hidden)
        if changes is None:
            exposed[need[0]] = True
        else:
            # What moves one count may show at once that others can be moved as far as they must.
            for other in shifts.met_by(changes):
                met[other] = True
    return sorted(exposed)


def exposed_cells(census, table, rule, pattern):
    """Return the ascending list of the exposed cells."""
    shifts = Shifts(census, table, rule)
    cells = shifts.cells()
    return [cells[number] for number in exposed_numbers(shifts, shifts.numbers_of(pattern))]


def is_safe(census, table, rule, pattern):
    """Tell whether a pattern is safe."""
    return not exposed_cells(census, table, rule, pattern)


def cost_of(count, sort):
    """Return the cost of a cell with a count that is not protected."""
    return 1 if sort == "cells" else 1 + count


def pattern_cost(census, table, rule, pattern, sort):
    """Return the cost of a pattern."""
    counts = counts_of(census, table)
    check_pattern(list(counts), pattern)
    return sum([cost_of(counts[cell], sort) for cell in pattern if not is_protected(counts[cell], rule)])

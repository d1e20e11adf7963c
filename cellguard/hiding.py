"""Tight patterns: safe ones out of which no further cell can be taken."""

from heapq import heappop, heappush

from cellguard.errors import InvalidPattern
from cellguard.rules import Shifts, cost_of


def room_left(shifts, changes, number, way):
    """Return how far the count of a cell can still go, after the changes of a dict."""
    return shifts.room(number, way) - way * changes.get(number, 0)


def cheapest_path(shifts, prices, changes, need):
    """Return a cheapest path along the cells of a dict of prices, from the one end of a need to the other one.

    It is the list of the tuples of a cell and a way, in any order, or None if there is no path.
    """
    source, sink = shifts.ends(need)
    came = {}
    queue = [(0, source, -1, 0, -1)]
    while queue and sink not in came:
        price, node, number, way, last = heappop(queue)
        if node in came:
            continue
        came[node] = (number, way, last)
        for cell, other, step in shifts.edges(node):
            if cell in prices and other not in came and room_left(shifts, changes, cell, step) > 0:
                heappush(queue, (price + prices[cell], other, cell, step, node))
    if sink not in came:
        return None
    path = []
    node = sink
    while node != source:
        number, way, last = came[node]
        path.append((number, way))
        node = last
    return path


def cheapest_changes(shifts, prices, need):
    """Return changes that meet a need along the cells of a dict of prices, or None if nothing meets it."""
    known = {number: prices[number] for number in prices if number != need[0]}
    changes = {}
    left = shifts.amount(need)
    while left > 0:
        path = cheapest_path(shifts, known, changes, need)
        if path is None:
            return None
        step = min([left] + [room_left(shifts, changes, number, way) for number, way in path])
        for number, way in path:
            changes[number] = changes.get(number, 0) + way * step
            # A cell is paid for once.
            known[number] = 1
        left -= step
    changes[need[0]] = need[1] * shifts.amount(need)
    return {number: changes[number] for number in changes if changes[number] != 0}


class Cover:
    """Hidden cells, and changes of the counts along them that meet the needs."""

    def __init__(self, shifts, allowed, costs):
        self._shifts = shifts
        self._hidden = {number: True for number in shifts.protected()}
        # A price is at least 1, so that a path along hidden cells is short; costs count for more.
        self._prices = {number: 1 + costs[number] * len(costs) for number in allowed}
        for number in self._hidden:
            self._prices[number] = 1
        self._changes = {}

    def hidden(self):
        """Return the ascending list of the hidden cells."""
        return sorted(self._hidden)

    def meets(self, need):
        """Meet a need, and hide the cells that are missing for it; return False if nothing meets it."""
        if need in self._changes:
            return True
        changes, _ = self._shifts.found(need, self.hidden())
        if changes is None:
            changes = cheapest_changes(self._shifts, self._prices, need)
        if changes is None:
            return False
        for number in changes:
            self._hidden[number] = True
            self._prices[number] = 1
        self._keep(changes)
        return True

    def take_out(self, number):
        """Show a hidden cell, if all needs are met without it."""
        others = [other for other in self.hidden() if other != number]
        broken = [need for need in self._changes if number in self._changes[need]]
        # Where much is moved along the cell, the others are soonest too little.
        for _, need in sorted([(-abs(self._changes[need][number]), need) for need in broken]):
            if number in self._changes[need]:
                changes, _ = self._shifts.found(need, others)
                if changes is None:
                    return
                self._keep(changes)
        del self._hidden[number]

    def _keep(self, changes):
        for need in self._shifts.met_by(changes):
            self._changes[need] = changes


def tight_along(shifts, allowed, costs):
    """Return the list of the cells of a tight pattern of allowed ones, or None if these are not safe.

    The allowed cells, and the cells that are returned, are lists of numbers; the protected cells are
    among the allowed ones. The costs of all cells tell which ones are hidden rather than others.
    """
    cover = Cover(shifts, allowed, costs)
    # What must move far is looked at first, for it often shows that others can move, too.
    for _, need in sorted([(-shifts.amount(need), need) for need in shifts.needs()]):
        if not cover.meets(need):
            return None
    protected = {number: True for number in shifts.protected()}
    further = [number for number in cover.hidden() if number not in protected]
    # A cell that must stay at one time must stay later, so each one is tried once, dear ones first.
    for _, number in sorted([(-costs[number], -number) for number in further]):
        cover.take_out(-number)
    return cover.hidden()


def tight_within(shifts, allowed, sort):
    """Return the cheaper one of two tight patterns of allowed cells, or None, as tight_along does."""
    protected = {number: True for number in shifts.protected()}
    paid = [0 if number in protected else cost_of(count, sort) for number, count in enumerate(shifts.counts())]
    cheapest = None
    for guide in ("cells", "persons"):
        # Costs by persons often lead to few cells, too, so both are tried for either sort.
        found = tight_along(shifts, allowed, [cost_of(count, guide) for count in shifts.counts()])
        if found is None:
            return None
        price = sum([paid[number] for number in found])
        if cheapest is None or price < cheapest[0]:
            cheapest = (price, found)
    return cheapest[1]


def tight_pattern(census, table, rule, *, sort="cells"):
    """Return a tight pattern that is meant to cost little."""
    shifts = Shifts(census, table, rule)
    cells = shifts.cells()
    return [cells[number] for number in tight_within(shifts, list(range(len(cells))), sort)]


def tightened(census, table, rule, pattern):
    """Return a tight pattern that is contained in a safe one."""
    shifts = Shifts(census, table, rule)
    cells = shifts.cells()
    allowed = shifts.numbers_of(pattern)
    if not all([number in allowed for number in shifts.protected()]):
        raise InvalidPattern("a protected cell is not hidden")
    numbers = tight_within(shifts, allowed, "cells")
    if numbers is None:
        raise InvalidPattern("the pattern is not safe")
    return [cells[number] for number in numbers]

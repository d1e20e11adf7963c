"""Patterns that are exposed to one person, who knows the own record."""

from cellguard.hiding import tight_within
from cellguard.rules import Shifts


def cells_of_persons(census, shifts):
    """Return the ascending list of the numbers of the cells of leaves with a count of at least 1."""
    counts = shifts.counts()
    found = []
    for number, (area, _) in enumerate(shifts.cells()):
        if counts[number] >= 1 and census.plan.areas.is_leaf(area):
            found.append(number)
    return found


def amounts_for(shifts, need, hidden, persons):
    """Return the dict from the cells of some persons to how far a need can be met for somebody in them.

    A person who knows that a cell is not empty knows nothing else that was not known: the areas above
    have this person, too, and the counts of cells that are not hidden are known to everybody.
    """
    counts = shifts.counts()
    everybody, changes = shifts.moved(need, hidden, None)
    amounts = {}
    for number in persons:
        if counts[number] + changes.get(number, 0) >= 1:
            amounts[number] = everybody
        else:
            amounts[number], _ = shifts.moved(need, hidden, number)
    return amounts


def exposing_persons(shifts, need, hidden, persons):
    """Return the list of the cells of persons for whom a need is not met as far as with all cells hidden."""
    shown = amounts_for(shifts, need, hidden, persons)
    best = amounts_for(shifts, need, list(range(len(shifts.counts()))), persons)
    return [person for person in persons if shown[person] < best[person]]


def exposed_to_one(census, table, rule, pattern):
    """Return the list of the tuples of a cell that is exposed to one, and the cell of a leaf by which it is."""
    shifts = Shifts(census, table, rule)
    hidden = shifts.numbers_of(pattern)
    persons = cells_of_persons(census, shifts)
    exposing = {number: {} for number in shifts.protected()}
    for need in shifts.needs():
        for person in exposing_persons(shifts, need, hidden, persons):
            exposing[need[0]][person] = True
    cells = shifts.cells()
    pairs = []
    for number in exposing:
        # What is not hidden is seen by everybody.
        found = sorted(exposing[number]) if number in hidden else persons
        pairs.extend([(cells[number], cells[person]) for person in found])
    return pairs


class OneCover:
    """Hidden cells, and changes of the counts along them that meet the needs for each single person.

    The changes for a need are a list of tuples of an amount and the dict of the changes. For each person,
    one of them moves as far as with all cells hidden, and leaves the person in the cell.
    """

    def __init__(self, census, shifts):
        self._shifts = shifts
        self._counts = shifts.counts()
        everything = list(range(len(self._counts)))
        persons = cells_of_persons(census, shifts)
        self._best = {need: amounts_for(shifts, need, everything, persons) for need in shifts.needs()}
        self._hidden = {number: True for number in tight_within(shifts, everything, "cells")}
        self._entries = {}
        for need in shifts.needs():
            self._meet(need, everything)

    def hidden(self):
        """Return the ascending list of the hidden cells."""
        return sorted(self._hidden)

    def take_out(self, number):
        """Show a hidden cell, if all needs are met without it."""
        others = [other for other in self.hidden() if other != number]
        found = {}
        for need in self._entries:
            rest = [entry for entry in self._entries[need] if number not in entry[1]]
            if len(rest) < len(self._entries[need]):
                found[need] = self._completed(need, others, rest)
                if found[need] is None:
                    return
        for need in found:
            self._entries[need] = found[need]
        del self._hidden[number]

    def _meet(self, need, everything):
        # What is hidden as a pattern for everybody is often enough; else further cells are hidden.
        found = self._completed(need, self.hidden(), [])
        if found is None:
            found = self._completed(need, everything, [])
            for _, changes in found:
                for number in changes:
                    self._hidden[number] = True
        self._entries[need] = found

    def _completed(self, need, hidden, entries):
        # Add what is missing for some persons, or return None if it cannot be added.
        found = list(entries)
        left = self._unmet(need, list(self._best[need]), found)
        if left and not found:
            found.append(self._shifts.moved(need, hidden, None))
            left = self._unmet(need, left, found)
        while left:
            entry = self._shifts.moved(need, hidden, left[0])
            if entry[0] < self._best[need][left[0]]:
                return None
            found.append(entry)
            left = self._unmet(need, left, [entry])
        return found

    def _unmet(self, need, persons, entries):
        # The persons for whom none of the changes is enough.
        left = persons
        best = self._best[need]
        for amount, changes in entries:
            left = [person for person in left
                    if amount < best[person] or self._counts[person] + changes.get(person, 0) < 1]
        return left


def tight_to_one(census, table, rule):
    """Return a pattern that is exposed to one at no cell, and out of which nothing further can be taken."""
    shifts = Shifts(census, table, rule)
    cells = shifts.cells()
    cover = OneCover(census, shifts)
    protected = {number: True for number in shifts.protected()}
    # A cell that must stay at one time must stay later, so each one is tried once.
    for number in [other for other in cover.hidden() if other not in protected]:
        cover.take_out(number)
    return [cells[number] for number in cover.hidden()]

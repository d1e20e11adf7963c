"""Patterns of least cost, and the papers that show that nothing costs less."""

from cellguard.errors import TooLarge
from cellguard.hiding import tight_within
from cellguard.rules import Shifts, cost_of


class State:
    """What is decided about the cells that are not protected.

    `decided` is a dict from cells to True for hidden and False for shown ones. `met` has the needs that
    are met along hidden cells alone, and `changes` how needs are met along cells that are not shown.
    `leading` is a list of cells one of which must be hidden, when it is known.
    """

    def __init__(self, decided, met, changes):
        self.decided = decided
        self.met = met
        self.changes = changes
        self.leading = []

    def with_hidden(self, number):
        """Return the state in which a further cell is hidden."""
        return self._with(number, True, list(self.changes))

    def with_shown(self, number):
        """Return the state in which a further cell is shown."""
        return self._with(number, False, [need for need in self.changes if number not in self.changes[need]])

    def _with(self, number, is_hidden, needs):
        # The changes of these needs still hold.
        met = {need: True for need in self.met}
        return State({**self.decided, number: is_hidden}, met, {need: self.changes[need] for need in needs})


class Search:
    """The search for a safe pattern of least cost."""

    def __init__(self, shifts, sort):
        self._shifts = shifts
        self._costs = [cost_of(count, sort) for count in shifts.counts()]
        self._all = list(range(len(self._costs)))
        for number in shifts.protected():
            self._costs[number] = 0
        self._best = tight_within(shifts, self._all, sort)
        self._bound = self._cost(self._best)

    def best(self):
        """Return the cells of the cheapest safe pattern that was found."""
        return list(self._best)

    def paper(self):
        """Look through all states, and return the cost paper that comes of it."""
        tasks = [(None, State({}, {}, {}))]
        papers = []
        while tasks:
            number, state = tasks.pop()
            if state is None:
                second = papers.pop()
                first = papers.pop()
                papers.append(("split", self._shifts.cells()[number], first, second))
                continue
            end = self._end(state)
            if end is not None:
                papers.append(end)
                continue
            # Dear cells come first, because hiding them soon costs too much.
            _, number = min([(-self._costs[leading], leading) for leading in state.leading])
            # The last task is the next one: both papers are there when it comes to the split itself.
            tasks.append((number, None))
            tasks.append((number, state.with_shown(number)))
            tasks.append((number, state.with_hidden(number)))
        return papers[0]

    def _cost(self, numbers):
        return sum([self._costs[number] for number in numbers])

    def _hidden_in(self, state):
        # The cells that are hidden whatever is still decided.
        return sorted(self._shifts.protected() + [number for number in state.decided if state.decided[number]])

    def _end(self, state):
        # The paper for a state that need not be split, otherwise None.
        hidden = self._hidden_in(state)
        if self._cost(hidden) >= self._bound:
            return ("cost",)
        short = self._short(state)
        if short is not None:
            return short
        state.leading = self._fewest_leading(state)
        if not state.leading:
            self._best = hidden
            self._bound = self._cost(hidden)
            return ("cost",)
        return None

    def _short(self, state):
        not_shown = [number for number in self._all if state.decided.get(number, True)]
        for need in self._shifts.needs():
            if need in state.changes:
                continue
            changes, members = self._shifts.found(need, not_shown)
            if changes is None:
                return "short", self._shifts.cells()[need[0]], need[1], members
            for other in self._shifts.met_by(changes):
                state.changes[other] = changes
        return None

    def _fewest_leading(self, state):
        # If a need is not met along hidden cells alone, one of the undecided cells that lead out of the
        # set that shows this must be hidden. These cells are looked for where there are the fewest.
        # There are none at all if all needs are met.
        hidden = self._hidden_in(state)
        undecided = [number for number in self._all if self._costs[number] > 0 and number not in state.decided]
        fewest = []
        for need in self._shifts.needs():
            if need in state.met or len(fewest) == 1:
                continue
            changes, members = self._shifts.found(need, hidden)
            if changes is not None:
                for other in self._shifts.met_by(changes):
                    state.met[other] = True
                continue
            leading = self._shifts.leading_out(members, undecided)
            if not fewest or len(leading) < len(fewest):
                fewest = leading
        return fewest


def least_pattern(census, table, rule, *, sort="cells", most=14):
    """Return the tuple of a safe pattern of least cost and a cost paper for its cost."""
    shifts = Shifts(census, table, rule)
    cells = shifts.cells()
    if len(cells) - len(shifts.protected()) > most:
        raise TooLarge(f"more than {most} cells are not protected")
    search = Search(shifts, sort)
    paper = search.paper()
    return [cells[number] for number in search.best()], paper

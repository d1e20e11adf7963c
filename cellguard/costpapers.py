"""Papers that show that no safe pattern costs less than a bound."""

from cellguard.counting import counts_of, totals_of
from cellguard.linking import network_of
from cellguard.network import Network
from cellguard.papers import is_cell, is_node_list, is_way, shown_bound
from cellguard.publication import publish
from cellguard.rules import cost_of, is_protected, wanted_from


class CostCase:
    """A table, a rule and costs, for which cost papers are checked."""

    def __init__(self, census, table, rule, sort):
        counts = counts_of(census, table)
        self._cells = list(counts)
        self._counts = list(counts.values())
        self._network = network_of(publish(census, {table: self._cells}), table)
        self._costs = [cost_of(count, sort) for count in self._counts]
        self._protected = [is_protected(count, rule) for count in self._counts]
        totals = totals_of(census)
        self._wanted = [wanted_from(counts[cell], totals[cell[0]], rule) for cell in self._cells]

    def cost(self, decided):
        """Return the cost of the cells that are hidden in a state."""
        return sum([self._costs[number] for number in decided if decided[number]])

    def undecided(self, decided, cell):
        """Return the number of a cell that is not decided and not protected, otherwise None."""
        number = self._number(cell)
        if number is None or number in decided or self._protected[number]:
            return None
        return number

    def is_short(self, decided, paper):
        """Tell whether a paper shows for a state that a protected cell stays exposed."""
        if len(paper) != 4:
            return False
        word, cell, way, members = paper
        number = self._number(cell)
        if number is None or not self._protected[number]:
            return False
        network = self._network_of(decided)
        if not is_way(way) or not is_node_list(network, members):
            return False
        shown = shown_bound(network, number, way, members)
        if shown is None:
            return False
        low, high = self._wanted[number]
        return shown < high if way == 1 else shown > low

    def _number(self, cell):
        return self._cells.index(cell) if is_cell(self._cells, cell) else None

    def _network_of(self, decided):
        arcs = self._network.arcs()
        for number in decided:
            if not decided[number]:
                tail, head, least, most = arcs[number]
                arcs[number] = (tail, head, self._counts[number], self._counts[number])
        return Network(self._network.nodes, arcs)


def is_split(paper):
    """Tell whether a tuple has the form of a split."""
    return len(paper) == 4 and paper[0] == "split"


def check_cost(census, table, rule, sort, bound, paper):
    """Tell whether a cost paper is right at the beginning for a bound."""
    case = CostCase(census, table, rule, sort)
    # A state is a dict from the decided cells to True for hidden and False for shown ones.
    tasks = [(paper, {})]
    while tasks:
        part, decided = tasks.pop()
        if not isinstance(part, tuple) or len(part) == 0:
            return False
        if is_split(part):
            number = case.undecided(decided, part[1])
            if number is None:
                return False
            tasks.append((part[2], {**decided, number: True}))
            tasks.append((part[3], {**decided, number: False}))
        elif part[0] == "short":
            if not case.is_short(decided, part):
                return False
        elif part != ("cost",) or case.cost(decided) < bound:
            return False
    return True


def paper_size(paper):
    """Return the number of the tuples of a cost paper."""
    size = 0
    tasks = [paper]
    while tasks:
        part = tasks.pop()
        size += 1
        if is_split(part):
            tasks.extend([part[2], part[3]])
    return size

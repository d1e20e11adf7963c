"""Tables in which hidden cells are published with bands, and the ranges that these leave."""

from cellguard.counting import cells_of, counts_of, totals_of
from cellguard.flows import extreme_from, flow_range, range_from, some_flow
from cellguard.linking import arc_of, census_of, network_of
from cellguard.network import Network
from cellguard.publication import publish
from cellguard.rules import is_protected, wanted_from


def band_of(count, base):
    """Return the band of a count."""
    least = count // base * base
    return least, least + base - 1


def banded_network(census, table, pattern, base):
    """Return the network of a banded table."""
    counts = counts_of(census, table)
    publication = publish(census, {table: pattern})
    network = network_of(publication, table)
    arcs = network.arcs()
    for cell in pattern:
        number = arc_of(census.plan, table, cell)
        tail, head, _, total = arcs[number]
        least, most = band_of(counts[cell], base)
        arcs[number] = (tail, head, least, min(most, total))
    return Network(network.nodes, arcs)


def banded_range(census, table, pattern, base, cell):
    """Return the tuple of the least and the greatest count of a cell for somebody who knows the bands."""
    return flow_range(banded_network(census, table, pattern, base), arc_of(census.plan, table, cell))


def banded_census(census, table, pattern, base, cell, way):
    """Return a census within the bands that has the greatest (way 1) or least (way -1) count in a cell."""
    network = banded_network(census, table, pattern, base)
    flow, _ = extreme_from(network, some_flow(network), arc_of(census.plan, table, cell), way)
    counts = {other: value for other, value in zip(cells_of(census.plan, table), flow)}
    return census_of(census.plan, totals_of(census), {table: counts})


def is_safe_banded(census, table, rule, pattern, base):
    """Tell whether a banded table is safe."""
    network = banded_network(census, table, pattern, base)
    counts = counts_of(census, table)
    totals = totals_of(census)
    hidden = {cell: True for cell in pattern}
    # The counts of the census are a flow of the network, with the totals of the leaves behind them.
    flow = list(counts.values()) + [totals[leaf] for leaf in census.plan.areas.leaves()]
    for arc, cell in enumerate(counts):
        if is_protected(counts[cell], rule):
            low, high = wanted_from(counts[cell], totals[cell[0]], rule)
            least, greatest = range_from(network, flow, arc)
            if cell not in hidden or least > low or greatest < high:
                return False
    return True


def least_base(census, table, rule, pattern, bases):
    """Return the first base of a list with which the banded table is safe, or None if there is none."""
    # Wrong tables and patterns raise their errors even if there is no base.
    publish(census, {table: pattern})
    for base in bases:
        if is_safe_banded(census, table, rule, pattern, base):
            return base
    return None


def cell_text(count, is_hidden, base):
    """Return the word for a count: the count itself, or its band if it is hidden."""
    if not is_hidden:
        return str(count)
    least, most = band_of(count, base)
    return f"{least}..{most}"


def banded_text(census, table, pattern, base):
    """Return the text of a banded table."""
    cells = publish(census, {table: pattern}).cells(table)
    counts = counts_of(census, table)
    size = len(census.plan.classes(table))
    lines = []
    for area in census.plan.areas.names():
        row = [(area, number) for number in range(size)]
        lines.append(" ".join(["row", area] + [cell_text(counts[cell], cells[cell] is None, base) for cell in row]))
    return "".join([line + "\n" for line in lines])

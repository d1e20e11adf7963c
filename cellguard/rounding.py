"""Tables that are published rounded to a base, and the ranges that they leave."""

from cellguard.counting import cells_of, counts_fit, counts_of, totals_of
from cellguard.flows import flow_range, some_flow
from cellguard.linking import arc_of, class_node, first_nodes
from cellguard.network import Network
from cellguard.papers import is_right
from cellguard.ranges import papers_from


def total_nodes(tree, nodes):
    """Return the dict from the areas to the nodes of their totals, given the first nodes of point 19."""
    found = {}
    free = nodes[None] + 1
    for area in tree.names():
        if tree.is_leaf(area):
            found[area] = nodes[area]
        else:
            found[area] = free
            free += 1
    # What comes into the root comes from the end node.
    found[None] = nodes[None]
    return found


def network_from(plan, table, bounds):
    """Return the network of a table with arcs for its totals, given the list of the bounds of all arcs."""
    tree = plan.areas
    nodes = first_nodes(tree, len(plan.classes(table)))
    totals = total_nodes(tree, nodes)
    joined = []
    for area, number in cells_of(plan, table):
        tail = class_node(tree, nodes, area, number)
        joined.append((tail, class_node(tree, nodes, tree.parent(area), number)))
    for area in tree.names():
        joined.append((totals[tree.parent(area)], totals[area]))
    arcs = [(tail, head, least, most) for (tail, head), (least, most) in zip(joined, bounds)]
    inner = [area for area in tree.names() if not tree.is_leaf(area)]
    return Network(nodes[None] + 1 + len(inner), arcs)


def all_numbers(plan, table, counts, totals):
    """Return the list of the counts of all cells and the totals of all areas, in the order of the arcs."""
    numbers = [counts[cell] for cell in cells_of(plan, table)]
    return numbers + [totals[area] for area in plan.areas.names()]


def rounding_network(census, table, base):
    """Return the network whose flows, times the base, are the rounded tables of a census."""
    numbers = all_numbers(census.plan, table, counts_of(census, table), totals_of(census))
    return network_from(census.plan, table, [(number // base, -(-number // base)) for number in numbers])


def rounded_table(census, table, base):
    """Return the tuple of the counts and the totals of a table rounded to a base."""
    cells = cells_of(census.plan, table)
    flow = some_flow(rounding_network(census, table, base))
    counts = {cell: base * value for cell, value in zip(cells, flow)}
    totals = {area: base * value for area, value in zip(census.plan.areas.names(), flow[len(cells):])}
    return counts, totals


def is_near(rounded, exact, base):
    """Tell whether all numbers of a dict are multiples of a base next to those of another dict."""
    return all([rounded[key] % base == 0 and abs(rounded[key] - exact[key]) < base for key in exact])


def is_rounded(census, table, base, counts, totals):
    """Tell whether counts and totals are a table rounded to a base."""
    if not counts_fit(census.plan, table, counts, totals):
        return False
    return is_near(counts, counts_of(census, table), base) and is_near(totals, totals_of(census), base)


def rounded_network(plan, table, base, counts, totals):
    """Return the network of a rounded table."""
    numbers = all_numbers(plan, table, counts, totals)
    return network_from(plan, table, [(max(0, number - base + 1), number + base - 1) for number in numbers])


def rounded_range(plan, table, base, counts, totals, cell):
    """Return the tuple of the least and the greatest count of a cell before the rounding."""
    network = rounded_network(plan, table, base, counts, totals)
    return flow_range(network, arc_of(plan, table, cell))


def rounded_papers(plan, table, base, counts, totals, cell):
    """Return the tuple of a paper for the least and one for the greatest count before the rounding."""
    network = rounded_network(plan, table, base, counts, totals)
    return papers_from(network, some_flow(network), arc_of(plan, table, cell))


def check_rounded_paper(plan, table, base, counts, totals, cell, paper):
    """Tell whether a paper is right for the network of a rounded table."""
    network = rounded_network(plan, table, base, counts, totals)
    return is_right(network, arc_of(plan, table, cell), paper)

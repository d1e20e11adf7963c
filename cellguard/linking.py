"""The networks of the tables of publications, and censuses that are made from their flows."""

from cellguard.census import Census
from cellguard.counting import cells_of, totals_fit
from cellguard.errors import InvalidPublication
from cellguard.flows import find_flow
from cellguard.network import Network


def first_nodes(tree, size):
    """Return the dict from the areas to their first nodes, for tables with a number of classes.

    The end node stands under None, as the place in which the root lies.
    """
    nodes = {leaf: node for node, leaf in enumerate(tree.leaves())}
    free = len(nodes)
    for area in tree.names():
        if area not in nodes:
            nodes[area] = free
            free += size
    nodes[None] = free
    return nodes


def class_node(tree, nodes, area, number):
    """Return the node of an area and a class; a leaf and the end have one node for all classes."""
    if area is None or tree.is_leaf(area):
        return nodes[area]
    return nodes[area] + number


def network_of(publication, table):
    """Return the network of a table."""
    cells = publication.cells(table)
    plan = publication.plan
    tree = plan.areas
    totals = publication.totals()
    nodes = first_nodes(tree, len(plan.classes(table)))
    end = nodes[None]
    arcs = []
    for area, number in cells_of(plan, table):
        tail = class_node(tree, nodes, area, number)
        head = class_node(tree, nodes, tree.parent(area), number)
        count = cells[(area, number)]
        if count is None:
            arcs.append((tail, head, 0, totals[area]))
        else:
            arcs.append((tail, head, count, count))
    for leaf in tree.leaves():
        arcs.append((end, nodes[leaf], totals[leaf], totals[leaf]))
    return Network(end + 1, arcs)


def arc_of(plan, table, cell):
    """Return the number of the arc of a cell."""
    area, number = cell
    return plan.areas.names().index(area) * len(plan.classes(table)) + number


def flows_of(publication):
    """Return the dict from the tables to a flow of the network of each, or None if not possible."""
    if not totals_fit(publication.plan.areas, publication.totals()):
        return None
    flows = {}
    for table in publication.tables():
        flow = find_flow(network_of(publication, table))
        if flow is None:
            return None
        flows[table] = flow
    return flows


def possible_flows(publication):
    """Return the dict from the tables of a possible publication to a flow of the network of each."""
    flows = flows_of(publication)
    if flows is None:
        raise InvalidPublication("no census agrees with the publication")
    return flows


def is_possible(publication):
    """Tell whether some census agrees with a publication."""
    return flows_of(publication) is not None


def class_samples(plan, table):
    """Return for each class of a table a dict from its attributes to values that lie in it."""
    samples = [{}]
    for attribute, grouping in plan.dimensions(table):
        samples = [{**sample, attribute: group[0]} for sample in samples for group in grouping]
    return samples


def divided_blocks(blocks, row, samples):
    """Give the records of a leaf the values of the classes of a table.

    A block is a tuple of the values of some equal records and the number of these records. The row
    has the count of each class, and the records take the classes one after the other.
    """
    divided = []
    number = 0
    left = row[0]
    for known, many in blocks:
        rest = many
        while rest > 0:
            while left == 0:
                number += 1
                left = row[number]
            sample = samples[number]
            step = min(left, rest)
            divided.append(({**known, **sample}, step))
            left -= step
            rest -= step
    return divided


def census_of(plan, totals, counts):
    """Return a census with these totals and with the counts of a dict from tables to counts."""
    samples = {table: class_samples(plan, table) for table in counts}
    first_values = {name: values[0] for name, values in plan.attributes()}
    records = []
    for leaf in plan.areas.leaves():
        blocks = [(first_values, totals[leaf])]
        for table in counts:
            row = [counts[table][(leaf, number)] for number in range(len(samples[table]))]
            blocks = divided_blocks(blocks, row, samples[table])
        for sample, many in blocks:
            records.append(((leaf, tuple(sample.values())), many))
    return Census(plan, records)


def census_from_flows(publication, flows, counts):
    """Return a census with given counts for some tables, and those of flows for the others."""
    plan = publication.plan
    chosen = {}
    for table in flows:
        # The arcs of the cells are the first ones of a network, in the order of the cells.
        chosen[table] = {cell: value for cell, value in zip(cells_of(plan, table), flows[table])}
    for table in counts:
        chosen[table] = counts[table]
    return census_of(plan, publication.totals(), chosen)


def census_from(publication, counts):
    """Return a census that agrees with a publication and has the counts of a dict from tables."""
    return census_from_flows(publication, possible_flows(publication), counts)

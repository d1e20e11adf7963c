"""Groups of persons who know their own records, and what else they can find out."""

from cellguard.census import Census
from cellguard.counting import cells_of, counts_of, totals_fit, totals_of
from cellguard.errors import InvalidPublication
from cellguard.flows import extreme_from, find_flow, range_from
from cellguard.linking import arc_of, census_of, network_of
from cellguard.network import Network
from cellguard.papers import is_right
from cellguard.ranges import papers_from


def group_census_of(plan, group):
    """Return the census of the records of a group alone; raises InvalidRecord."""
    return Census(plan, [(record, 1) for record in group])


def raised_arc(arc, is_hidden, known):
    """Return the arc of a cell for a group that has a number of records in it."""
    tail, head, least, most = arc
    # The count of a cell that is not hidden is known to everybody.
    if most < known:
        raise InvalidPublication("the group has more records in a cell than there can be")
    return tail, head, known if is_hidden else least, most


def group_network(publication, table, group):
    """Return the network of a table for a group."""
    network = network_of(publication, table)
    known = counts_of(group_census_of(publication.plan, group), table)
    cells = publication.cells(table)
    arcs = network.arcs()
    for number, cell in enumerate(cells_of(publication.plan, table)):
        arcs[number] = raised_arc(arcs[number], cells[cell] is None, known[cell])
    return Network(network.nodes, arcs)


def group_flows(publication, table, group):
    """Return the dict from the tables to a flow of the network of each for a group.

    Raises the errors of group_network for the given table, and then InvalidPublication if no census
    agrees with the publication for the group.
    """
    networks = {table: group_network(publication, table, group)}
    if not totals_fit(publication.plan.areas, publication.totals()):
        raise InvalidPublication("the totals do not fit")
    flows = {}
    for other in publication.tables():
        if other not in networks:
            networks[other] = group_network(publication, other, group)
        flows[other] = find_flow(networks[other])
        if flows[other] is None:
            raise InvalidPublication("no census agrees with the publication for the group")
    return flows


def group_range(publication, table, group, cell):
    """Return the tuple of the least and the greatest count of a cell for a group."""
    flow = group_flows(publication, table, group)[table]
    network = group_network(publication, table, group)
    return range_from(network, flow, arc_of(publication.plan, table, cell))


def census_with(publication, group, flows):
    """Return a census that contains a group and has the counts that flows give for the tables."""
    plan = publication.plan
    census = group_census_of(plan, group)
    known_totals = totals_of(census)
    totals = publication.totals()
    rest = {}
    for table in flows:
        known = counts_of(census, table)
        rest[table] = {cell: value - known[cell] for cell, value in zip(known, flows[table])}
    others = census_of(plan, {area: totals[area] - known_totals[area] for area in totals}, rest)
    return Census(plan, census.records() + others.records())


def group_census(publication, table, group, cell, way):
    """Return a census that agrees for a group and has the greatest (way 1) or least (way -1) count."""
    flows = group_flows(publication, table, group)
    network = group_network(publication, table, group)
    flow, _ = extreme_from(network, flows[table], arc_of(publication.plan, table, cell), way)
    return census_with(publication, group, {**flows, table: flow})


def group_papers(publication, table, group, cell):
    """Return the tuple of a paper for the least and one for the greatest count of a cell for a group."""
    flow = group_flows(publication, table, group)[table]
    network = group_network(publication, table, group)
    return papers_from(network, flow, arc_of(publication.plan, table, cell))


def check_group_paper(publication, table, group, cell, paper):
    """Tell whether a paper for a cell of a table is right for a group."""
    network = group_network(publication, table, group)
    return is_right(network, arc_of(publication.plan, table, cell), paper)

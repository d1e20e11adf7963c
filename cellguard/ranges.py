"""The ranges of cells, and the censuses and papers that show them."""

from cellguard.errors import UnknownName
from cellguard.flows import extreme_from, is_fixed, range_from
from cellguard.linking import arc_of, census_from_flows, network_of, possible_flows


def checked_flows(publication, table):
    """Return the flows of all tables of a possible publication that has a table."""
    if table not in publication.tables():
        raise UnknownName(table)
    return possible_flows(publication)


def cell_range(publication, table, cell):
    """Return the tuple of the least and the greatest count of a cell."""
    flows = checked_flows(publication, table)
    arc = arc_of(publication.plan, table, cell)
    return range_from(network_of(publication, table), flows[table], arc)


def determined_cells(publication, table):
    """Return the ascending list of the hidden cells whose range has equal numbers."""
    flow = checked_flows(publication, table)[table]
    network = network_of(publication, table)
    determined = []
    for cell in publication.hidden(table):
        if is_fixed(network, flow, arc_of(publication.plan, table, cell)):
            determined.append(cell)
    return determined


def extreme_census(publication, table, cell, way):
    """Return a census that agrees and has the greatest (way 1) or least (way -1) count in a cell."""
    flows = checked_flows(publication, table)
    arc = arc_of(publication.plan, table, cell)
    flow, _ = extreme_from(network_of(publication, table), flows[table], arc, way)
    return census_from_flows(publication, {**flows, table: flow}, {})


def papers_from(network, flow, arc):
    """Return the tuple of a paper for the least and one for the greatest value of an arc, given some flow."""
    papers = []
    for way in (-1, 1):
        extreme, members = extreme_from(network, flow, arc, way)
        papers.append((way, extreme[arc], members))
    return tuple(papers)


def range_papers(publication, table, cell):
    """Return the tuple of a paper for the least and one for the greatest count of a cell."""
    flow = checked_flows(publication, table)[table]
    return papers_from(network_of(publication, table), flow, arc_of(publication.plan, table, cell))

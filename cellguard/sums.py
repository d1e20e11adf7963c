"""The ranges of weighted sums of cells, and the censuses and papers that show them."""

from cellguard.linking import arc_of, census_from_flows, network_of
from cellguard.papers import is_integer, is_way
from cellguard.pricing import best_flow, lower_price, upper_price
from cellguard.ranges import checked_flows


def arc_weights(plan, table, weights):
    """Return the dict from the arcs of the cells of a sum to their weights."""
    return {arc_of(plan, table, cell): weights[cell] for cell in weights}


def shown_price(network, weights, way, potentials):
    """Return the upper (way 1) or lower (way -1) bound that potentials show."""
    if way == 1:
        return upper_price(network, weights, potentials)
    return lower_price(network, weights, potentials)


def sum_papers(publication, table, weights):
    """Return the tuple of a paper for the least and one for the greatest value of a sum."""
    checked_flows(publication, table)
    network = network_of(publication, table)
    arcs = arc_weights(publication.plan, table, weights)
    papers = []
    for way in (-1, 1):
        _, potentials = best_flow(network, arcs, way)
        papers.append((way, shown_price(network, arcs, way, potentials), potentials))
    return tuple(papers)


def sum_range(publication, table, weights):
    """Return the tuple of the least and the greatest value of a sum."""
    least_paper, greatest_paper = sum_papers(publication, table, weights)
    return least_paper[1], greatest_paper[1]


def sum_census(publication, table, weights, way):
    """Return a census that agrees and has the greatest (way 1) or least (way -1) value of a sum."""
    flows = checked_flows(publication, table)
    arcs = arc_weights(publication.plan, table, weights)
    flow, _ = best_flow(network_of(publication, table), arcs, way)
    return census_from_flows(publication, {**flows, table: flow}, {})


def is_potentials(network, potentials):
    """Tell whether a value is a list of one integer for each node of a network."""
    if not isinstance(potentials, list) or len(potentials) != network.nodes:
        return False
    return all([is_integer(potential) for potential in potentials])


def check_sum_paper(publication, table, weights, paper):
    """Tell whether a paper for a sum of a table is right."""
    network = network_of(publication, table)
    if not isinstance(paper, tuple) or len(paper) != 3:
        return False
    way, bound, potentials = paper
    if not is_way(way) or not is_integer(bound) or not is_potentials(network, potentials):
        return False
    shown = shown_price(network, arc_weights(publication.plan, table, weights), way, potentials)
    # For a lower bound the order of the numbers is the other way round.
    return way * shown <= way * bound

"""Papers that show a bound for the count of a cell."""

from cellguard.errors import InvalidFlow
from cellguard.linking import arc_of, network_of
from cellguard.network import lower_bound, upper_bound


def is_integer(value):
    """Tell whether a value is an integer; True and False are not."""
    return isinstance(value, int) and not isinstance(value, bool)


def is_way(value):
    """Tell whether a value is the way of an upper or a lower bound."""
    return is_integer(value) and value in (1, -1)


def is_cell(cells, value):
    """Tell whether a value is one of some cells."""
    # A cell is equal to a tuple with True or False in the place of its number, which is no cell.
    if not isinstance(value, tuple) or len(value) != 2 or not is_integer(value[1]):
        return False
    return value in cells


def is_node_list(network, members):
    """Tell whether a value is an ascending list of nodes of a network."""
    if not isinstance(members, list):
        return False
    last = -1
    for node in members:
        if not is_integer(node) or not last < node < network.nodes:
            return False
        last = node
    return True


def shown_bound(network, arc, way, members):
    """Return the bound that nodes show for an arc, or None if it does not cross the set as it must."""
    try:
        if way == 1:
            return upper_bound(network, arc, members)
        return lower_bound(network, arc, members)
    except InvalidFlow:
        return None


def is_right(network, arc, paper):
    """Tell whether a value is a right paper for an arc of a network."""
    if not isinstance(paper, tuple) or len(paper) != 3:
        return False
    way, bound, members = paper
    if not is_way(way) or not is_integer(bound):
        return False
    if members is None:
        shown = network.arcs()[arc][3 if way == 1 else 2]
    elif is_node_list(network, members):
        shown = shown_bound(network, arc, way, members)
    else:
        return False
    # For a lower bound the order of the numbers is the other way round.
    return shown is not None and way * shown <= way * bound


def check_paper(publication, table, cell, paper):
    """Tell whether a paper for a cell of a table is right."""
    return is_right(network_of(publication, table), arc_of(publication.plan, table, cell), paper)

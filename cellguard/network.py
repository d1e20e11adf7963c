"""Networks, and the bounds that sets of nodes show for their arcs."""

from cellguard.errors import InvalidFlow


def arc_fits(nodes, arc):
    """Tell whether an arc may stand in a network with a number of nodes."""
    tail, head, least, most = arc
    if not 0 <= tail < nodes or not 0 <= head < nodes or tail == head:
        return False
    return 0 <= least <= most


class Network:
    """A network of nodes and arcs."""

    def __init__(self, nodes, arcs):
        for number, arc in enumerate(arcs):
            if not arc_fits(nodes, arc):
                raise InvalidFlow(f"arc {number} breaks a rule of networks")
        self.nodes = nodes
        self._arcs = list(arcs)

    def arcs(self):
        """Return the list of the arcs."""
        return list(self._arcs)


def is_flow(network, values):
    """Tell whether a list of integers is a flow."""
    arcs = network.arcs()
    if len(values) != len(arcs):
        return False
    surplus = [0] * network.nodes
    for (tail, head, least, most), value in zip(arcs, values):
        if not least <= value <= most:
            return False
        surplus[head] += value
        surplus[tail] -= value
    return not any(surplus)


def crossing_arcs(network, members):
    """Return the list of the numbers of the arcs that enter a set of nodes, and that of those that leave it."""
    inside = {node: True for node in members}
    entering = []
    leaving = []
    for number, (tail, head, least, most) in enumerate(network.arcs()):
        if head in inside and tail not in inside:
            entering.append(number)
        elif tail in inside and head not in inside:
            leaving.append(number)
    return entering, leaving


def upper_bound(network, arc, members):
    """Return the upper bound that a list of nodes shows for the arc with a number."""
    entering, leaving = crossing_arcs(network, members)
    if arc not in entering:
        raise InvalidFlow(f"arc {arc} does not enter the set")
    arcs = network.arcs()
    most_out = sum([arcs[number][3] for number in leaving])
    return most_out - sum([arcs[number][2] for number in entering if number != arc])


def lower_bound(network, arc, members):
    """Return the lower bound that a list of nodes shows for the arc with a number."""
    entering, leaving = crossing_arcs(network, members)
    if arc not in leaving:
        raise InvalidFlow(f"arc {arc} does not leave the set")
    arcs = network.arcs()
    least_in = sum([arcs[number][2] for number in entering])
    return least_in - sum([arcs[number][3] for number in leaving if number != arc])

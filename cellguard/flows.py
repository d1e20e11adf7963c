"""Flows of networks: finding one, and the extreme values of an arc."""

from cellguard.errors import InvalidFlow


class Residual:
    """How much can still be moved along the edges between nodes.

    Each link has two edges, numbered 2 * k and 2 * k + 1, one for each direction.
    What is moved along one of them can be moved back along the other one.
    """

    def __init__(self, nodes):
        self._edges = [[] for _ in range(nodes)]
        self._heads = []
        self._rooms = []

    def link(self, tail, head, forward, backward):
        """Add a link between two nodes, with the room in both directions."""
        self._edges[tail].append(len(self._heads))
        self._edges[head].append(len(self._heads) + 1)
        self._heads.extend([head, tail])
        self._rooms.extend([forward, backward])

    def with_rooms(self, rooms):
        """Return another one with the same links, given the list of the rooms of all edges."""
        other = Residual(0)
        # Links are only added while something is built, so both can have the same lists of them.
        other._edges = self._edges
        other._heads = self._heads
        other._rooms = list(rooms)
        return other

    def rooms(self):
        """Return the list of the rooms of all edges."""
        return list(self._rooms)

    def back_room(self, link):
        """Return how much can be moved backward along the link with a number."""
        return self._rooms[2 * link + 1]

    def reached(self, source, nodes):
        """Return the ascending list of the nodes below a number that are in reach of a node."""
        found = [False] * len(self._edges)
        found[source] = True
        queue = [source]
        while queue:
            for edge in self._edges[queue.pop()]:
                head = self._heads[edge]
                if self._rooms[edge] > 0 and not found[head]:
                    found[head] = True
                    queue.append(head)
        return [node for node in range(nodes) if found[node]]

    def move(self, source, sink, wanted):
        """Move as much as possible from node to node, at most what is wanted, and return how much."""
        moved = 0
        while moved < wanted:
            distances = self._distances(source, sink)
            if distances[source] < 0:
                return moved
            moved += self._move_shortest(distances, source, sink, wanted - moved)
        return moved

    def _distances(self, source, sink):
        # How far it is from the nodes to the sink, or -1. Nodes that are farther than the source do not matter.
        heads = self._heads
        rooms = self._rooms
        found = [-1] * len(self._edges)
        found[sink] = 0
        queue = [sink]
        at = 0
        while at < len(queue) and found[source] < 0:
            node = queue[at]
            at += 1
            for edge in self._edges[node]:
                if rooms[edge ^ 1] > 0 and found[heads[edge]] < 0:
                    found[heads[edge]] = found[node] + 1
                    queue.append(heads[edge])
        return found

    def _move_shortest(self, distances, source, sink, wanted):
        # Edges that led nowhere are not tried again, as long as the distances are the same.
        tried = [0] * len(self._edges)
        path = []
        node = source
        moved = 0
        while moved < wanted:
            if node == sink:
                moved += self._move_along(path, wanted - moved)
                path = []
                node = source
                continue
            edge = self._next_edge(distances, tried, node)
            if edge is not None:
                path.append(edge)
                node = self._heads[edge]
            elif path:
                node = self._heads[path.pop() ^ 1]
                tried[node] += 1
            else:
                return moved
        return moved

    def _next_edge(self, distances, tried, node):
        edges = self._edges[node]
        nearer = distances[node] - 1
        while tried[node] < len(edges):
            edge = edges[tried[node]]
            if self._rooms[edge] > 0 and distances[self._heads[edge]] == nearer:
                return edge
            tried[node] += 1
        return None

    def _move_along(self, path, wanted):
        amount = min(wanted, min([self._rooms[edge] for edge in path]))
        for edge in path:
            self._rooms[edge] -= amount
            self._rooms[edge ^ 1] += amount
        return amount


def flow_or_set(network):
    """Return a tuple of a flow and None, or of None and a closed set."""
    nodes = network.nodes
    arcs = network.arcs()
    source = nodes
    sink = nodes + 1
    residual = Residual(nodes + 2)
    surplus = [0] * nodes
    for tail, head, least, most in arcs:
        residual.link(tail, head, most - least, 0)
        surplus[head] += least
        surplus[tail] -= least
    # The leasts are moved already; what they leave over or lack at a node must be balanced.
    wanted = 0
    for node, amount in enumerate(surplus):
        if amount > 0:
            residual.link(source, node, amount, 0)
            wanted += amount
        elif amount < 0:
            residual.link(node, sink, -amount, 0)
    if residual.move(source, sink, wanted) < wanted:
        return None, residual.reached(source, nodes)
    return [arc[2] + residual.back_room(number) for number, arc in enumerate(arcs)], None


def find_flow(network):
    """Return a flow of a network, or None if there is none."""
    flow, _ = flow_or_set(network)
    return flow


def closed_set(network):
    """Return an ascending list of nodes that is a closed set, or None if the network has a flow."""
    _, members = flow_or_set(network)
    return members


def residual_without(network, flow, arc):
    """Return how a flow can be changed while the arc with a number is left out."""
    residual = Residual(network.nodes)
    for number, (tail, head, least, most) in enumerate(network.arcs()):
        if number == arc:
            residual.link(tail, head, 0, 0)
        else:
            residual.link(tail, head, most - flow[number], flow[number] - least)
    return residual


def detour(network, flow, arc, way):
    """Return where the value of an arc comes back from if it grows (way 1) or shrinks (way -1).

    This is a tuple of the node to start from, the node to reach, and how far the arc can go.
    """
    tail, head, least, most = network.arcs()[arc]
    if way == 1:
        return head, tail, most - flow[arc]
    return tail, head, flow[arc] - least


def extreme_from(network, flow, arc, way):
    """Return the tuple of extreme_flow, given some flow of the network."""
    residual = residual_without(network, flow, arc)
    source, sink, room = detour(network, flow, arc, way)
    moved = residual.move(source, sink, room)
    arcs = network.arcs()
    values = [arcs[number][2] + residual.back_room(number) for number in range(len(arcs))]
    values[arc] = flow[arc] + way * moved
    if moved == room:
        return values, None
    return values, residual.reached(source, network.nodes)


def range_from(network, flow, arc):
    """Return the tuple of the least and the greatest value of an arc, given some flow."""
    least_flow, _ = extreme_from(network, flow, arc, -1)
    greatest_flow, _ = extreme_from(network, flow, arc, 1)
    return least_flow[arc], greatest_flow[arc]


def is_fixed(network, flow, arc):
    """Tell whether an arc has the same value in all flows, given one of them."""
    for way in (-1, 1):
        source, sink, room = detour(network, flow, arc, way)
        residual = residual_without(network, flow, arc)
        if residual.move(source, sink, min(room, 1)) > 0:
            return False
    return True


def some_flow(network):
    """Return a flow of a network that has one."""
    flow = find_flow(network)
    if flow is None:
        raise InvalidFlow("the network has no flow")
    return flow


def extreme_flow(network, arc, way):
    """Return a flow in which an arc has its greatest (way 1) or least (way -1) value.

    It stands in a tuple with the list of nodes that shows this value as a bound, or None if it is
    the most or the least of the arc itself.
    """
    return extreme_from(network, some_flow(network), arc, way)


def flow_range(network, arc):
    """Return the tuple of the least and the greatest value of an arc."""
    return range_from(network, some_flow(network), arc)

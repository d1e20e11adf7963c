"""The lists of all counts that a table of a publication can have."""

from cellguard.counting import cells_of
from cellguard.errors import TooLarge
from cellguard.linking import network_of
from cellguard.ranges import checked_flows


class Listing:
    """A flow of a network that steps through all flows, in lexicographic order.

    An arc is only ever changed together with later ones, so that the earlier ones keep their values.
    """

    def __init__(self, network, flow):
        self._arcs = network.arcs()
        self._values = list(flow)
        # At each node the last arc comes first, so that the arcs behind a given one are found first.
        self._edges = [[] for _ in range(network.nodes)]
        for number in reversed(range(len(self._arcs))):
            tail, head, least, most = self._arcs[number]
            if least < most:
                self._edges[tail].append((number, head, 1))
                self._edges[head].append((number, tail, -1))
        self._free = self._arcs_on_rings(network.nodes)
        self._lower_from(0)

    def flow(self):
        """Return the values of the arcs."""
        return list(self._values)

    def step(self):
        """Go to the next flow, or return False if this is the last one."""
        for place in reversed(range(len(self._free))):
            if self._moved(self._free[place], 1, 1) > 0:
                self._lower_from(place + 1)
                return True
        return False

    def _arcs_on_rings(self, nodes):
        # The other arcs follow from earlier ones: they lie on no ring of this arc and later ones.
        groups = [{node: True} for node in range(nodes)]
        free = []
        for number in reversed(range(len(self._arcs))):
            tail, head, least, most = self._arcs[number]
            if least < most and head in groups[tail]:
                free.append(number)
            elif least < most:
                joined = {**groups[tail], **groups[head]}
                for node in joined:
                    groups[node] = joined
        free.reverse()
        return free

    def _lower_from(self, place):
        for number in self._free[place:]:
            self._moved(number, -1, self._values[number] - self._arcs[number][2])

    def _moved(self, number, way, wanted):
        # Change an arc by at most what is wanted, make up for it along later arcs, and return how much.
        moved = 0
        while moved < wanted:
            room = self._room(number, way)
            path = self._path(number, way) if room > 0 else None
            if path is None:
                return moved
            amount = min([wanted - moved, room] + [self._room(other, step) for other, step in path])
            for other, step in path:
                self._values[other] += step * amount
            self._values[number] += way * amount
            moved += amount
        return moved

    def _room(self, number, way):
        tail, head, least, most = self._arcs[number]
        return most - self._values[number] if way == 1 else self._values[number] - least

    def _path(self, number, way):
        # A shortest path along later arcs, by which what an arc moves comes back.
        tail, head, least, most = self._arcs[number]
        source, sink = (head, tail) if way == 1 else (tail, head)
        came = {source: None}
        queue = [source]
        at = 0
        while at < len(queue) and sink not in came:
            here = queue[at]
            at += 1
            for other, node, step in self._edges[here]:
                if other <= number:
                    break
                if node not in came and self._room(other, step) > 0:
                    came[node] = (other, step, here)
                    queue.append(node)
        if sink not in came:
            return None
        path = []
        node = sink
        while node != source:
            other, step, node = came[node]
            path.append((other, step))
        return path


def all_counts(publication, table):
    """Yield the dicts of all counts that a table can have, in lexicographic order."""
    flow = checked_flows(publication, table)[table]
    cells = cells_of(publication.plan, table)
    listing = Listing(network_of(publication, table), flow)
    has_next = True
    while has_next:
        # The arcs of the cells are the first ones of a network, in the order of the cells.
        yield {cell: value for cell, value in zip(cells, listing.flow())}
        has_next = listing.step()


def number_of_counts(publication, table, *, most=10000):
    """Return how many counts a table can have."""
    many = 0
    for _ in all_counts(publication, table):
        many += 1
        if many > most:
            raise TooLarge(f"there are more than {most} counts")
    return many

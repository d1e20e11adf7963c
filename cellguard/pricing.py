"""Weighted sums over the arcs of a network: prices, the bounds that potentials show, and best flows."""

from heapq import heappop, heappush

from cellguard.flows import Residual, some_flow


def prices_of(network, weights, potentials):
    """Return the list of the prices of all arcs."""
    prices = []
    for number, (tail, head, least, most) in enumerate(network.arcs()):
        prices.append(weights.get(number, 0) + potentials[tail] - potentials[head])
    return prices


def upper_price(network, weights, potentials):
    """Return the upper bound that potentials show for a sum."""
    bound = 0
    for price, (tail, head, least, most) in zip(prices_of(network, weights, potentials), network.arcs()):
        bound += price * (most if price > 0 else least)
    return bound


def lower_price(network, weights, potentials):
    """Return the lower bound that potentials show for a sum."""
    bound = 0
    for price, (tail, head, least, most) in zip(prices_of(network, weights, potentials), network.arcs()):
        bound += price * (least if price > 0 else most)
    return bound


def cheapest_value(arc, cost, value):
    """Return the cheapest value of an arc with a cost for each unit, or the given one without a cost."""
    tail, head, least, most = arc
    if cost == 0:
        return value
    return least if cost > 0 else most


class CheapFlow:
    """Values of the arcs of a network that are made a flow of least cost, and the potentials that show it.

    The price of an arc is its cost plus the potential of its tail minus that of its head. At every time,
    an arc with a positive price has its least value, and one with a negative price its most. So the
    values cost least among all that have the same surplus at each node, and at last there is none.
    """

    def __init__(self, network, costs, flow):
        self._arcs = network.arcs()
        self._costs = costs
        self._potentials = [0] * network.nodes
        self._values = []
        self._edges = [[] for _ in range(network.nodes)]
        for number, arc in enumerate(self._arcs):
            self._values.append(cheapest_value(arc, costs[number], flow[number]))
            self._edges[arc[0]].append((number, arc[1], 1))
            self._edges[arc[1]].append((number, arc[0], -1))

    def flow(self):
        """Return the values of the arcs."""
        return list(self._values)

    def potentials(self):
        """Return the potentials of the nodes."""
        return list(self._potentials)

    def settle(self):
        """Move what is left over at some nodes to those where it lacks, at least cost."""
        surplus = self._surplus()
        while any(surplus):
            self._raise_potentials([node for node, amount in enumerate(surplus) if amount > 0])
            self._move(surplus)
            surplus = self._surplus()

    def _surplus(self):
        surplus = [0] * len(self._potentials)
        for (tail, head, least, most), value in zip(self._arcs, self._values):
            surplus[head] += value
            surplus[tail] -= value
        return surplus

    def _price(self, number):
        tail, head, least, most = self._arcs[number]
        return self._costs[number] + self._potentials[tail] - self._potentials[head]

    def _room(self, number, way):
        tail, head, least, most = self._arcs[number]
        return most - self._values[number] if way == 1 else self._values[number] - least

    def _distances(self, starts):
        # No edge with room has a negative length, because of the prices.
        distances = {}
        queue = [(0, node) for node in starts]
        while queue:
            distance, node = heappop(queue)
            if node in distances:
                continue
            distances[node] = distance
            for number, other, way in self._edges[node]:
                if other not in distances and self._room(number, way) > 0:
                    heappush(queue, (distance + way * self._price(number), other))
        return distances

    def _raise_potentials(self, starts):
        distances = self._distances(starts)
        # Nodes out of reach rise with the farthest one, so that no price with room changes its sign.
        farthest = max(distances.values())
        for node in range(len(self._potentials)):
            self._potentials[node] += distances.get(node, farthest)

    def _move(self, surplus):
        source = len(surplus)
        sink = source + 1
        residual = Residual(source + 2)
        free = [number for number in range(len(self._arcs)) if self._price(number) == 0]
        for number in free:
            residual.link(self._arcs[number][0], self._arcs[number][1], self._room(number, 1), self._room(number, -1))
        for node, amount in enumerate(surplus):
            if amount > 0:
                residual.link(source, node, amount, 0)
            elif amount < 0:
                residual.link(node, sink, -amount, 0)
        residual.move(source, sink, sum([amount for amount in surplus if amount > 0]))
        for link, number in enumerate(free):
            self._values[number] = self._arcs[number][2] + residual.back_room(link)


def best_flow(network, weights, way):
    """Return the tuple of a flow with the greatest (way 1) or least (way -1) sum, and potentials that show it."""
    costs = [-way * weights.get(number, 0) for number in range(len(network.arcs()))]
    cheap = CheapFlow(network, costs, some_flow(network))
    cheap.settle()
    return cheap.flow(), [-way * potential for potential in cheap.potentials()]

import random
import unittest

import samples
from cellguard.errors import InvalidFlow
from cellguard.network import Network, is_flow
from cellguard.pricing import best_flow, lower_price, upper_price

RING = [(0, 1, 1, 4), (1, 2, 0, 5), (2, 0, 2, 3), (1, 0, 0, 2)]


def shown_prices(arcs, weights, potentials):
    """The lower and the upper bound, by the sums of point 25."""
    lower = upper = 0
    for number, (tail, head, least, most) in enumerate(arcs):
        price = weights.get(number, 0) + potentials[tail] - potentials[head]
        values = sorted((price * least, price * most))
        lower += values[0]
        upper += values[1]
    return lower, upper


class PricesTest(unittest.TestCase):
    def check(self, weights, potentials, lower, upper):
        network = Network(3, RING)
        self.assertEqual(lower_price(network, weights, potentials), lower)
        self.assertEqual(upper_price(network, weights, potentials), upper)
        self.assertEqual(shown_prices(RING, weights, potentials), (lower, upper))

    def test_by_hand(self):
        self.check({}, [0, 0, 0], 0, 0)
        self.check({0: 2}, [0, 0, 0], 2, 8)
        self.check({0: -2}, [0, 0, 0], -8, -2)
        self.check({0: 1, 1: -1, 2: 3, 3: -4}, [0, 0, 0], 1 - 5 + 6 - 8, 4 + 0 + 9 + 0)
        # The same potential everywhere changes no price.
        self.check({0: 2}, [7, 7, 7], 2, 8)
        # Prices: 1 - 2 = -1 for the arc 0, 2 - 5 = -3 for 1, 5 - 1 = 4 for 2, 2 - 1 = 1 for 3.
        self.check({}, [1, 2, 5], -4 - 15 + 8 + 0, -1 + 0 + 12 + 2)
        # Prices: 3 + (-3) - (-1) = 1, -1 - (-2) = 1, -2 - (-3) = 1, -1 - (-3) + 10 = 12.
        self.check({0: 3, 3: 10}, [-3, -1, -2], 1 + 0 + 2 + 0, 4 + 5 + 3 + 24)
        # Prices of 0 count nothing.
        self.check({0: 2, 1: -3}, [0, 2, -1], 0 + 0 - 3 + 0, 0 + 0 - 2 + 4)

    def test_weights_of_zero(self):
        self.check({0: 0, 2: 0}, [0, 0, 0], 0, 0)

    def test_no_flow_goes_beyond_the_bounds(self):
        generator = random.Random(41)
        network = Network(3, RING)
        flows = list(samples.all_flows(3, RING))
        self.assertGreater(len(flows), 3)
        for _ in range(300):
            weights = {number: generator.randrange(-3, 4) for number in range(4) if generator.random() < 0.7}
            potentials = [generator.randrange(-5, 6) for _ in range(3)]
            lower = lower_price(network, weights, potentials)
            upper = upper_price(network, weights, potentials)
            self.assertEqual((lower, upper), shown_prices(RING, weights, potentials))
            for flow in flows:
                self.assertTrue(lower <= sum(weights.get(k, 0) * value for k, value in enumerate(flow)) <= upper)

    def test_works_for_networks_without_a_flow(self):
        network = Network(2, [(0, 1, 2, 3)])
        self.assertEqual(upper_price(network, {0: 5}, [0, 1]), 12)
        self.assertEqual(lower_price(network, {0: 5}, [0, 1]), 8)


class BestFlowTest(unittest.TestCase):
    def check(self, network, weights, way, best):
        before = dict(weights)
        found = best_flow(network, weights, way)
        self.assertIs(type(found), tuple)
        flow, potentials = found
        self.assertIs(type(flow), list)
        self.assertIs(type(potentials), list)
        self.assertEqual(len(potentials), network.nodes)
        self.assertTrue(all(type(potential) is int for potential in potentials))
        self.assertIs(is_flow(network, flow), True)
        self.assertEqual(sum(weights.get(k, 0) * value for k, value in enumerate(flow)), best)
        self.assertEqual(shown_prices(network.arcs(), weights, potentials)[1 if way == 1 else 0], best)
        self.assertEqual(weights, before)
        self.assertEqual(best_flow(network, weights, way), found)

    def test_by_hand(self):
        network = Network(3, RING)
        # The arc 2 has 2 or 3, the arc 3 has 0 to 2, and the arc 0 has the sum of both.
        self.check(network, {0: 1}, 1, 4)
        self.check(network, {0: 1}, -1, 2)
        self.check(network, {0: -1}, 1, -2)
        self.check(network, {0: -1}, -1, -4)
        self.check(network, {2: 1, 3: -1}, 1, 3)
        self.check(network, {2: 1, 3: -1}, -1, 0)
        self.check(network, {2: 5, 3: 3}, 1, 18)
        self.check(network, {1: 2, 3: 3}, 1, 10)
        self.check(network, {1: 10 ** 12, 3: -1}, 1, 3 * 10 ** 12)
        self.check(network, {0: 1, 1: -1, 3: -1}, 1, 0)

    def test_no_weights(self):
        network = Network(3, RING)
        for way in (1, -1):
            self.check(network, {}, way, 0)
            self.check(network, {0: 0, 3: 0}, way, 0)
        self.check(Network(1, []), {}, 1, 0)
        self.check(Network(4, []), {}, -1, 0)

    def test_parts_that_are_not_joined(self):
        network = Network(5, [(0, 1, 0, 3), (1, 0, 0, 4), (2, 3, 1, 2), (3, 2, 0, 7)])
        self.check(network, {0: 1, 2: -1}, 1, 2)
        self.check(network, {0: 1, 2: -1}, -1, -2)

    def test_networks_without_a_flow(self):
        for network in (Network(2, [(0, 1, 1, 3)]), Network(3, [(0, 1, 2, 3), (1, 2, 0, 1), (2, 0, 0, 9)])):
            for weights in ({}, {0: 1}):
                for way in (1, -1):
                    with self.assertRaises(InvalidFlow):
                        best_flow(network, weights, way)

    def test_against_all_flows(self):
        generator = random.Random(42)
        tried = 0
        while tried < 150:
            nodes = generator.randrange(2, 5)
            arcs = []
            for _ in range(generator.randrange(1, 7)):
                tail, head = generator.sample(range(nodes), 2)
                least = generator.randrange(2)
                arcs.append((tail, head, least, least + generator.randrange(4)))
            flows = list(samples.all_flows(nodes, arcs))
            if not flows:
                continue
            tried += 1
            network = Network(nodes, arcs)
            for most in (1, 3, 1000):
                weights = {k: generator.randint(-most, most) for k in range(len(arcs)) if generator.random() < 0.8}
                sums = [sum(weights.get(k, 0) * value for k, value in enumerate(flow)) for flow in flows]
                self.check(network, weights, 1, max(sums))
                self.check(network, weights, -1, min(sums))

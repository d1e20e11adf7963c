import random
import unittest

import samples
from cellguard.errors import InvalidFlow
from cellguard.network import Network, is_flow, lower_bound, upper_bound

RING = [(0, 1, 0, 4), (1, 2, 1, 3), (2, 0, 0, 5), (0, 1, 0, 2), (1, 0, 0, 1)]


class NetworkTest(unittest.TestCase):
    def test_nodes_and_arcs(self):
        network = Network(3, RING)
        self.assertEqual(network.nodes, 3)
        self.assertEqual(network.arcs(), RING)
        self.assertIs(type(network.arcs()), list)
        self.assertIs(type(network.arcs()[0]), tuple)

    def test_networks_without_arcs(self):
        self.assertEqual(Network(2, []).arcs(), [])
        self.assertEqual(Network(0, []).nodes, 0)

    def test_edges_of_the_bounds(self):
        arcs = [(0, 1, 0, 0), (1, 0, 3, 3), (0, 1, 0, 7), (1, 0, 2, 5)]
        self.assertEqual(Network(2, arcs).arcs(), arcs)

    def test_broken_arcs(self):
        for arc in ((0, 3, 0, 1), (3, 0, 0, 1), (-1, 0, 0, 1), (0, -1, 0, 1), (1, 1, 0, 1), (0, 1, -1, 1), (0, 1, 2, 1),
                    (0, 1, -2, -1), (0, 1, 1, 0), (5, 5, 0, 0)):
            with self.subTest(arc):
                with self.assertRaises(InvalidFlow):
                    Network(3, [arc])
                with self.assertRaises(InvalidFlow):
                    Network(3, [(0, 1, 0, 1), arc, (1, 2, 0, 1)])
                with self.assertRaises(InvalidFlow):
                    Network(3, [*RING, arc])

    def test_copies(self):
        arcs = list(RING)
        network = Network(3, arcs)
        arcs.pop()
        arcs[0] = (0, 2, 0, 1)
        self.assertEqual(network.arcs(), RING)
        network.arcs().clear()
        self.assertEqual(network.arcs(), RING)


class IsFlowTest(unittest.TestCase):
    def assert_flow(self, wanted, values):
        self.assertIs(is_flow(Network(3, RING), values), wanted)

    def test_flows(self):
        self.assert_flow(True, [1, 1, 1, 0, 0])
        self.assert_flow(True, [2, 3, 3, 2, 1])
        self.assert_flow(True, [0, 1, 1, 2, 1])

    def test_broken_bounds(self):
        self.assert_flow(False, [0, 0, 0, 0, 0])
        self.assert_flow(False, [4, 4, 4, 0, 0])
        self.assert_flow(False, [-1, 1, 1, 2, 0])
        self.assert_flow(False, [0, 3, 3, 3, 0])

    def test_broken_balances(self):
        self.assert_flow(False, [1, 1, 1, 1, 0])
        self.assert_flow(False, [1, 2, 1, 0, 0])
        self.assert_flow(False, [1, 1, 2, 0, 0])

    def test_other_lengths(self):
        self.assert_flow(False, [])
        self.assert_flow(False, [1, 1, 1, 0])
        self.assert_flow(False, [1, 1, 1, 0, 0, 0])

    def test_without_arcs(self):
        self.assertIs(is_flow(Network(2, []), []), True)
        self.assertIs(is_flow(Network(2, []), [0]), False)

    def test_against_all_flows(self):
        generator = random.Random(14)
        for _ in range(30):
            arcs = samples_arcs(generator, 3, 4)
            flows = list(samples.all_flows(3, arcs))
            network = Network(3, arcs)
            for values in ([a, b, c, d] for a in range(4) for b in range(4) for c in range(4) for d in range(4)):
                self.assertIs(is_flow(network, values), values in flows)


def samples_arcs(generator, nodes, many):
    arcs = []
    for _ in range(many):
        tail, head = generator.sample(range(nodes), 2)
        least = generator.randrange(3)
        arcs.append((tail, head, least, least + generator.randrange(2)))
    return arcs


class BoundsTest(unittest.TestCase):
    def setUp(self):
        # 0 -> 1 (2..9), 0 -> 1 (1..4), 1 -> 2 (0..5), 2 -> 3 (1..3), 1 -> 3 (2..6), 3 -> 0 (3..20), 2 -> 0 (0..7)
        self.network = Network(4, [(0, 1, 2, 9), (0, 1, 1, 4), (1, 2, 0, 5), (2, 3, 1, 3), (1, 3, 2, 6), (3, 0, 3, 20),
                                   (2, 0, 0, 7)])

    def test_upper_bounds(self):
        self.assertEqual(upper_bound(self.network, 0, [1]), 5 + 6 - 1)
        self.assertEqual(upper_bound(self.network, 1, [1]), 5 + 6 - 2)
        self.assertEqual(upper_bound(self.network, 0, [1, 2]), 3 + 6 + 7 - 1)
        self.assertEqual(upper_bound(self.network, 0, [2, 1]), 3 + 6 + 7 - 1)
        self.assertEqual(upper_bound(self.network, 0, [3, 1, 2]), 20 + 7 - 1)
        self.assertEqual(upper_bound(self.network, 3, [3]), 20 - 2)
        self.assertEqual(upper_bound(self.network, 4, [0, 3]), 9 + 4 - 1 - 0)
        self.assertEqual(upper_bound(self.network, 2, [2]), 3 + 7)

    def test_lower_bounds(self):
        self.assertEqual(lower_bound(self.network, 2, [1]), 2 + 1 - 6)
        self.assertEqual(lower_bound(self.network, 4, [1]), 2 + 1 - 5)
        self.assertEqual(lower_bound(self.network, 5, [3]), 1 + 2)
        self.assertEqual(lower_bound(self.network, 0, [0]), 3 + 0 - 4)
        self.assertEqual(lower_bound(self.network, 5, [3, 2, 1]), 2 + 1 - 7)
        self.assertEqual(lower_bound(self.network, 5, [1, 2, 3]), 2 + 1 - 7)

    def test_arcs_that_do_not_cross(self):
        for arc, members in ((0, []), (0, [0]), (0, [0, 1]), (0, [2]), (0, [2, 3]), (0, [0, 1, 2, 3]), (5, [3]), (5, [1, 2])):
            with self.subTest(arc=arc, members=members):
                with self.assertRaises(InvalidFlow):
                    upper_bound(self.network, arc, members)
        for arc, members in ((0, []), (0, [1]), (0, [0, 1]), (0, [2]), (0, [2, 3]), (0, [0, 1, 2, 3]), (5, [0]), (5, [1, 2])):
            with self.subTest(arc=arc, members=members):
                with self.assertRaises(InvalidFlow):
                    lower_bound(self.network, arc, members)

    def test_no_flow_is_beyond_a_bound(self):
        generator = random.Random(16)
        for _ in range(40):
            arcs = samples_arcs(generator, 4, 6)
            flows = list(samples.all_flows(4, arcs))
            network = Network(4, arcs)
            for number in range(16):
                members = [node for node in range(4) if number >> node & 1]
                for arc, (tail, head, _, _) in enumerate(arcs):
                    if head in members and tail not in members:
                        bound = upper_bound(network, arc, members)
                        self.assertEqual(bound, samples.shown_bound(arcs, arc, 1, members))
                        self.assertTrue(all(flow[arc] <= bound for flow in flows))
                    if tail in members and head not in members:
                        bound = lower_bound(network, arc, members)
                        self.assertEqual(bound, samples.shown_bound(arcs, arc, -1, members))
                        self.assertTrue(all(flow[arc] >= bound for flow in flows))

    def test_arguments_stay(self):
        members = [2, 1]
        upper_bound(self.network, 0, members)
        lower_bound(self.network, 3, members)
        self.assertEqual(members, [2, 1])

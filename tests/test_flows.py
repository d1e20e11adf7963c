import random
import unittest

import samples
from cellguard.errors import InvalidFlow
from cellguard.flows import closed_set, extreme_flow, find_flow, flow_range
from cellguard.network import Network, is_flow, lower_bound, upper_bound


def random_arcs(generator, nodes):
    arcs = []
    for _ in range(generator.randrange(1, 7)):
        tail, head = generator.sample(range(nodes), 2)
        least = generator.choice((0, 0, 0, 1, 2))
        arcs.append((tail, head, least, least + generator.randrange(4)))
    return arcs


class FlowsTest(unittest.TestCase):
    def assert_extremes(self, network, arc, least, greatest):
        self.assertEqual(flow_range(network, arc), (least, greatest))
        self.assertIs(type(flow_range(network, arc)), tuple)
        for way, value in ((-1, least), (1, greatest)):
            result = extreme_flow(network, arc, way)
            self.assertIs(type(result), tuple)
            flow, members = result
            self.assertIs(type(flow), list)
            self.assertIs(is_flow(network, flow), True)
            self.assertEqual(flow[arc], value)
            if members is None:
                self.assertEqual(value, network.arcs()[arc][3 if way == 1 else 2])
            else:
                self.assertIs(type(members), list)
                self.assertEqual(members, sorted(set(members)))
                self.assertTrue(all(0 <= node < network.nodes for node in members))
                bound = upper_bound if way == 1 else lower_bound
                self.assertEqual(bound(network, arc, members), value)

    def assert_no_flow(self, network):
        self.assertIsNone(find_flow(network))
        members = closed_set(network)
        self.assertIs(type(members), list)
        self.assertEqual(members, sorted(set(members)))
        self.assertTrue(all(0 <= node < network.nodes for node in members))
        self.assertTrue(samples.is_closed(network.nodes, network.arcs(), members))
        for arc in range(min(10, len(network.arcs()))):
            with self.assertRaises(InvalidFlow):
                flow_range(network, arc)
            for way in (-1, 1):
                with self.assertRaises(InvalidFlow):
                    extreme_flow(network, arc, way)

    def test_without_arcs(self):
        for nodes in (0, 1, 3):
            self.assertEqual(find_flow(Network(nodes, [])), [])
            self.assertIsNone(closed_set(Network(nodes, [])))

    def test_a_ring(self):
        network = Network(3, [(0, 1, 0, 4), (1, 2, 1, 3), (2, 0, 0, 5), (1, 0, 0, 1)])
        self.assertIs(is_flow(network, find_flow(network)), True)
        self.assertIsNone(closed_set(network))
        for arc, (least, greatest) in enumerate([(1, 4), (1, 3), (1, 3), (0, 1)]):
            self.assert_extremes(network, arc, least, greatest)

    def test_arcs_between_the_same_nodes(self):
        network = Network(2, [(0, 1, 0, 3), (0, 1, 1, 2), (1, 0, 4, 6), (1, 0, 0, 9)])
        for arc, (least, greatest) in enumerate([(2, 3), (1, 2), (4, 5), (0, 1)]):
            self.assert_extremes(network, arc, least, greatest)

    def test_an_arc_and_the_arc_back(self):
        network = Network(2, [(0, 1, 0, 3), (1, 0, 0, 5)])
        self.assert_extremes(network, 0, 0, 3)
        self.assert_extremes(network, 1, 0, 3)
        flow, members = extreme_flow(network, 1, 1)
        self.assertEqual((flow, members), ([3, 3], [0]))

    def test_ways_back_of_different_lengths(self):
        # Each way back alone has too little or too much room for the arc.
        network = Network(4, [(0, 1, 0, 3), (1, 0, 0, 2), (1, 2, 0, 5), (2, 0, 0, 5), (2, 3, 0, 9), (3, 0, 0, 9)])
        self.assert_extremes(network, 0, 0, 3)
        self.assert_extremes(network, 1, 0, 2)
        self.assert_extremes(network, 2, 0, 3)
        self.assert_extremes(network, 5, 0, 3)
        network = Network(4, [(0, 1, 2, 9), (1, 0, 0, 2), (1, 2, 0, 5), (2, 0, 0, 1), (2, 3, 0, 9), (3, 0, 0, 9)])
        self.assert_extremes(network, 0, 2, 7)
        self.assert_extremes(network, 3, 0, 1)
        self.assert_extremes(network, 5, 0, 5)

    def test_fixed_arcs(self):
        network = Network(3, [(0, 1, 2, 2), (1, 2, 0, 9), (2, 0, 0, 9)])
        self.assert_extremes(network, 0, 2, 2)
        self.assert_extremes(network, 1, 2, 2)
        self.assert_extremes(network, 2, 2, 2)

    def test_an_arc_on_no_ring(self):
        network = Network(3, [(0, 1, 0, 4), (1, 0, 0, 2), (1, 2, 0, 7)])
        self.assert_extremes(network, 2, 0, 0)
        self.assert_no_flow(Network(3, [(0, 1, 0, 4), (1, 0, 0, 2), (1, 2, 1, 7)]))

    def test_networks_without_a_flow(self):
        self.assert_no_flow(Network(2, [(0, 1, 1, 1)]))
        self.assert_no_flow(Network(2, [(0, 1, 3, 5), (1, 0, 0, 2)]))
        self.assert_no_flow(Network(4, [(0, 1, 0, 1), (1, 0, 0, 1), (2, 3, 2, 2), (3, 2, 1, 1)]))
        self.assert_no_flow(Network(3, [(0, 1, 0, 9), (1, 2, 4, 9), (2, 0, 0, 3)]))

    def test_against_all_flows(self):
        generator = random.Random(15)
        found = {True: 0, False: 0}
        for _ in range(500):
            nodes = generator.randrange(2, 6)
            arcs = random_arcs(generator, nodes)
            network = Network(nodes, arcs)
            flows = list(samples.all_flows(nodes, arcs))
            found[bool(flows)] += 1
            if not flows:
                self.assert_no_flow(network)
                continue
            self.assertIn(find_flow(network), flows)
            self.assertIsNone(closed_set(network))
            for arc in range(len(arcs)):
                values = {flow[arc] for flow in flows}
                self.assertEqual(sorted(values), list(range(min(values), max(values) + 1)))
                self.assert_extremes(network, arc, min(values), max(values))
        self.assertGreater(found[True], 50)
        self.assertGreater(found[False], 50)

    def test_large_numbers(self):
        network = Network(4, [(0, 1, 0, 10 ** 6), (0, 2, 0, 10 ** 6), (1, 2, 0, 1), (1, 3, 0, 10 ** 6), (2, 3, 0, 10 ** 6),
                              (3, 0, 10 ** 6, 2 * 10 ** 6)])
        self.assert_extremes(network, 2, 0, 1)
        self.assert_extremes(network, 5, 10 ** 6, 2 * 10 ** 6)
        self.assert_extremes(network, 0, 0, 10 ** 6)

    def test_a_long_ring(self):
        many = 2000
        arcs = [(node, (node + 1) % many, 0, many + node % 7) for node in range(many)]
        network = Network(many, arcs)
        self.assert_extremes(network, 5, 0, many)
        self.assert_no_flow(Network(many, [*arcs[:-1], (many - 1, 0, many + 1, many + 1)]))

    def test_same_arguments_give_same_results(self):
        generator = random.Random(2)
        for _ in range(50):
            arcs = random_arcs(generator, 4)
            results = []
            for _ in range(2):
                network = Network(4, arcs)
                result = [find_flow(network), closed_set(network)]
                if result[0] is not None:
                    result += [extreme_flow(network, 0, way) for way in (1, -1)]
                    find_flow(network).clear()
                    extreme_flow(network, 0, 1)[0].clear()
                    self.assertEqual(find_flow(network), result[0])
                    self.assertEqual(extreme_flow(network, 0, 1), result[2])
                self.assertEqual(network.arcs(), arcs)
                results.append(result)
            self.assertEqual(results[0], results[1])

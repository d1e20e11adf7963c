import random
import unittest
from itertools import product

import samples
from cellguard.census import census_text
from cellguard.counting import cells_of, counts_fit, counts_of, totals_of
from cellguard.errors import UnknownName
from cellguard.network import Network, is_flow
from cellguard.rounding import (check_rounded_paper, is_rounded, rounded_papers, rounded_range, rounded_table,
                                rounding_network)


def all_fitting(plan, counts, totals, away):
    """All counts that fit some totals, where all numbers differ by less than `away` from the given ones."""
    tree = plan.areas
    size = len(plan.classes("t"))
    leaves = tree.leaves()
    keys = [(leaf, number) for leaf in leaves for number in range(size)]
    found = []
    for values in product(*[range(max(0, counts[key] - away + 1), counts[key] + away) for key in keys]):
        at = dict(zip(keys, values))
        for area in tree.names():
            if not tree.is_leaf(area):
                for number in range(size):
                    at[(area, number)] = sum(at[(leaf, number)] for leaf in tree.leaves_below(area))
        sums = {area: sum(at[(area, number)] for number in range(size)) for area in tree.names()}
        if all(abs(at[cell] - counts[cell]) < away for cell in counts) and all(abs(sums[a] - totals[a]) < away for a in totals):
            found.append(at)
    return found


class RoundingNetworkTest(unittest.TestCase):
    def test_written_out_by_hand(self):
        # Nodes: south 0, hill 1, dale 2, land 3 and 4, north 5 and 6, end 7, and further land 8 and north 9.
        # Counts: land 9 6, north 9 2, south 0 4, hill 4 2, dale 5 0; totals 15, 11, 4, 6, 5.
        network = rounding_network(samples.land_census(), "jobs", 4)
        self.assertIsInstance(network, Network)
        self.assertEqual(network.nodes, 10)
        self.assertEqual(network.arcs(), [
            (3, 7, 2, 3), (4, 7, 1, 2),
            (5, 3, 2, 3), (6, 4, 0, 1),
            (0, 3, 0, 0), (0, 4, 1, 1),
            (1, 5, 1, 1), (1, 6, 0, 1),
            (2, 5, 1, 2), (2, 6, 0, 0),
            (7, 8, 3, 4), (8, 9, 2, 3), (8, 0, 1, 1), (9, 1, 1, 2), (9, 2, 1, 2),
        ])

    def test_tree_of_one_area(self):
        plan = samples.Plan([("land", None)], [("one", ["x", "y"])], [("t", [("one", [["x"], ["y"]])])])
        census = samples.census_of_rows(plan, {"land": [3, 5]})
        network = rounding_network(census, "t", 3)
        self.assertEqual(network.nodes, 2)
        self.assertEqual(network.arcs(), [(0, 1, 1, 1), (0, 1, 1, 2), (1, 0, 2, 3)])

    def test_areas_in_a_mixed_order(self):
        # Nodes: b 0, c 1, root 2 and 3, a 4 and 5, end 6, further root 7 and a 8.
        plan = samples.Plan([("root", None), ("a", "root"), ("b", "root"), ("c", "a")],
                            [("one", ["x", "y"])], [("t", [("one", [["y"], ["x"]])])])
        census = samples.census_of_rows(plan, {"b": [1, 2], "c": [3, 4]})
        self.assertEqual(rounding_network(census, "t", 2).arcs(), [
            (2, 6, 3, 3), (3, 6, 2, 2), (4, 2, 2, 2), (5, 3, 1, 2), (0, 2, 1, 1), (0, 3, 0, 1), (1, 4, 2, 2), (1, 5, 1, 2),
            (6, 7, 5, 5), (7, 8, 3, 4), (7, 0, 1, 2), (8, 1, 3, 4)])

    def test_the_counts_are_a_flow_for_large_bases(self):
        network = rounding_network(samples.land_census(), "jobs", 100)
        self.assertIs(is_flow(network, [0] * 15), True)
        self.assertTrue(all(arc[2:] in ((0, 1), (0, 0)) for arc in network.arcs()))


class RoundedTableTest(unittest.TestCase):
    def assert_rounded(self, census, table, base):
        found = rounded_table(census, table, base)
        self.assertIs(type(found), tuple)
        counts, totals = found
        exact = counts_of(census, table)
        exact_totals = totals_of(census)
        self.assertEqual(list(counts), list(exact))
        self.assertEqual(list(totals), list(exact_totals))
        for at, wanted in ((counts, exact), (totals, exact_totals)):
            for key in wanted:
                self.assertEqual(at[key] % base, 0)
                self.assertLess(abs(at[key] - wanted[key]), base)
        self.assertIs(counts_fit(census.plan, table, counts, totals), True)
        self.assertIs(is_rounded(census, table, base, counts, totals), True)
        self.assertEqual(rounded_table(census, table, base), found)
        return found

    def test_many_censuses(self):
        generator = random.Random(131)
        for plan in (samples.triple_plan(), samples.flat_plan(4, 3), samples.flat_plan(1, 2)):
            for _ in range(15):
                census = samples.random_census(plan, generator, (0, 1, 2, 3, 7, 20))
                for base in (2, 3, 5, 10, 100):
                    self.assert_rounded(census, "t", base)

    def test_multiples_stay(self):
        census = samples.census_of_rows(samples.triple_plan(), {"x": [3, 6, 0], "y": [9, 0, 3], "z": [0, 0, 12]})
        self.assertEqual(self.assert_rounded(census, "t", 3), (counts_of(census, "t"), totals_of(census)))
        one = samples.census_of_rows(samples.triple_plan(), {"x": [3, 6, 0], "y": [9, 0, 4], "z": [0, 0, 12]})
        counts, totals = self.assert_rounded(one, "t", 3)
        for cell, count in counts_of(one, "t").items():
            if count % 3 == 0:
                self.assertEqual(counts[cell], count)

    def test_an_empty_census(self):
        census = samples.census_of_rows(samples.triple_plan(), {})
        counts, totals = self.assert_rounded(census, "t", 5)
        self.assertEqual(set(counts.values()) | set(totals.values()), {0})

    def test_changed_numbers(self):
        census = samples.land_census()
        for base in (2, 3, 5):
            counts, totals = self.assert_rounded(census, "people", base)
            for step in (1, -1, base, -base):
                for key in counts:
                    self.assertIs(is_rounded(census, "people", base, {**counts, key: counts[key] + step}, totals), False)
                for key in totals:
                    self.assertIs(is_rounded(census, "people", base, counts, {**totals, key: totals[key] + step}), False)
            for key in counts:
                rest = {other: count for other, count in counts.items() if other != key}
                self.assertIs(is_rounded(census, "people", base, rest, totals), False)
            for key in totals:
                rest = {other: total for other, total in totals.items() if other != key}
                self.assertIs(is_rounded(census, "people", base, counts, rest), False)
            self.assertIs(is_rounded(census, "people", base, {**counts, ("moon", 0): 0}, totals), False)
            self.assertIs(is_rounded(census, "people", base, {**counts, ("land", 4): 0}, totals), False)
            self.assertIs(is_rounded(census, "people", base, counts, {**totals, "moon": 0}), False)
            self.assertIs(is_rounded(census, "people", base, {}, {}), False)

    def test_numbers_that_fit_but_are_too_far_away(self):
        census = samples.census_of_rows(samples.flat_plan(1, 2), {"l0": [2, 4]})
        fits = lambda first, second: ({("top", 0): first, ("top", 1): second, ("l0", 0): first, ("l0", 1): second},
                                      {"top": first + second, "l0": first + second})
        self.assertIs(is_rounded(census, "t", 2, *fits(2, 4)), True)
        self.assertIs(is_rounded(census, "t", 2, *fits(0, 4)), False)
        self.assertIs(is_rounded(census, "t", 2, *fits(2, 6)), False)
        # Here the total is right, and the counts are not.
        self.assertIs(is_rounded(census, "t", 2, *fits(0, 6)), False)
        self.assertIs(is_rounded(census, "t", 3, *fits(6, 0)), False)
        self.assertIs(is_rounded(census, "t", 3, *fits(3, 3)), True)
        self.assertIs(is_rounded(census, "t", 3, *fits(0, 6)), True)
        # Here the total is 9 and not 6.
        self.assertIs(is_rounded(census, "t", 3, *fits(3, 6)), False)
        self.assertIs(is_rounded(census, "t", 4, *fits(4, 4)), True)
        self.assertIs(is_rounded(census, "t", 4, *fits(0, 4)), True)
        self.assertIs(is_rounded(census, "t", 4, *fits(2, 4)), False)

    def test_the_counts_of_the_census_are_not_rounded(self):
        census = samples.land_census()
        self.assertIs(is_rounded(census, "jobs", 2, counts_of(census, "jobs"), totals_of(census)), False)


class RoundedRangeTest(unittest.TestCase):
    def assert_shown(self, plan, table, base, counts, totals, cell, least, greatest):
        told = (plan, table, base, counts, totals, cell)
        self.assertEqual(rounded_range(*told), (least, greatest))
        self.assertIs(type(rounded_range(*told)), tuple)
        papers = rounded_papers(*told)
        self.assertIs(type(papers), tuple)
        self.assertEqual([paper[:2] for paper in papers], [(-1, least), (1, greatest)])
        for way, bound, members in papers:
            self.assertIs(check_rounded_paper(*told, (way, bound, members)), True)
            self.assertIs(check_rounded_paper(*told, (way, bound + way, members)), True)
            self.assertIs(check_rounded_paper(*told, (way, bound - way, members)), False)

    def test_by_hand(self):
        # 10 people; the class 0 has 1 to 9, and the class 1 has 6 to 14, and both together 6 to 14.
        plan = samples.flat_plan(1, 2)
        counts = {("top", 0): 5, ("top", 1): 10, ("l0", 0): 5, ("l0", 1): 10}
        totals = {"top": 15, "l0": 15}
        self.assert_shown(plan, "t", 5, counts, totals, ("l0", 0), 1, 9)
        self.assert_shown(plan, "t", 5, counts, totals, ("l0", 1), 6, 14)
        counts = {("top", 0): 0, ("top", 1): 10, ("l0", 0): 0, ("l0", 1): 10}
        self.assert_shown(plan, "t", 5, counts, {"top": 10, "l0": 10}, ("l0", 0), 0, 4)
        self.assert_shown(plan, "t", 5, counts, {"top": 10, "l0": 10}, ("top", 1), 6, 14)
        # Rounded up twice, and the total down.
        counts = {("top", 0): 5, ("top", 1): 5, ("l0", 0): 5, ("l0", 1): 5}
        self.assert_shown(plan, "t", 5, counts, {"top": 5, "l0": 5}, ("l0", 0), 1, 8)

    def test_against_all_possible_censuses(self):
        generator = random.Random(132)
        plans = (samples.flat_plan(2, 2), samples.flat_plan(1, 3),
                 samples.Plan([("top", None), ("left", "top"), ("x", "left"), ("z", "top")],
                              [("one", ["a", "b"])], [("t", [("one", [["a"], ["b"]])])]))
        for plan in plans:
            for base in (2, 3):
                for _ in range(3):
                    census = samples.random_census(plan, generator, (0, 1, 2, 3, 4, 9))
                    counts, totals = rounded_table(census, "t", base)
                    possible = all_fitting(plan, counts, totals, base)
                    for cell in cells_of(plan, "t"):
                        least, greatest = samples.tried_range(possible, cell)
                        self.assert_shown(plan, "t", base, counts, totals, cell, least, greatest)

    def test_the_order_of_the_dicts_does_not_matter(self):
        census = samples.land_census()
        counts, totals = rounded_table(census, "jobs", 3)
        turned = dict(reversed(list(counts.items())))
        turned_totals = dict(reversed(list(totals.items())))
        self.assertIs(is_rounded(census, "jobs", 3, turned, turned_totals), True)
        for cell in counts:
            self.assertEqual(rounded_range(census.plan, "jobs", 3, turned, turned_totals, cell),
                             rounded_range(census.plan, "jobs", 3, counts, totals, cell))

    def test_papers_by_hand(self):
        plan = samples.flat_plan(1, 2)
        counts = {("top", 0): 0, ("top", 1): 10, ("l0", 0): 0, ("l0", 1): 10}
        check = lambda cell, paper: check_rounded_paper(plan, "t", 5, counts, {"top": 10, "l0": 10}, cell, paper)
        # Nodes: l0 0, top 1 and 2, end 3, further 4; most of an arc with 10 is 14, least is 6.
        self.assertIs(check(("l0", 0), (1, 4, None)), True)
        self.assertIs(check(("l0", 0), (1, 3, None)), False)
        self.assertIs(check(("l0", 0), (-1, 0, None)), True)
        self.assertIs(check(("l0", 0), (-1, 1, None)), False)
        self.assertIs(check(("l0", 0), (1, 4, [1])), True)
        self.assertIs(check(("l0", 0), (1, 3, [1])), False)
        # What leaves the node 0 besides is at least 6, so the whole of l0 bounds nothing better than 14 - 6.
        self.assertIs(check(("l0", 1), (-1, 2, [0])), True)
        self.assertIs(check(("l0", 1), (-1, 3, [0])), False)
        self.assertIs(check(("l0", 1), (-1, 6, None)), True)

    def test_papers_of_another_form(self):
        census = samples.land_census()
        counts, totals = rounded_table(census, "jobs", 3)
        for paper in (None, 1, "paper", [1, 99, None], (), (1, 99), (1, 99, None, 1), (0, 99, None), (2, 99, None),
                      (True, 99, None), (1, None, None), (1, "99", None), (1, 99, (5,)), (1, 99, [5, 5]), (1, 99, [5, 3]),
                      (1, 99, [5, 10]), (1, 99, [-1, 5]), (1, 99, ["5"]), (1, 99, []), (1, 99, [1])):
            self.assertIs(check_rounded_paper(census.plan, "jobs", 3, counts, totals, ("hill", 0), paper), False)
        self.assertIs(check_rounded_paper(census.plan, "jobs", 3, counts, totals, ("hill", 0), (1, 99, [5, 9])), True)


class ErrorsTest(unittest.TestCase):
    def test_unknown_tables_come_first(self):
        census = samples.land_census()
        counts, totals = rounded_table(census, "jobs", 3)
        plan = census.plan
        for table in ("age", "zoo", ""):
            for call in (lambda: rounding_network(census, table, 3), lambda: rounded_table(census, table, 3),
                         lambda: is_rounded(census, table, 3, counts, totals), lambda: is_rounded(census, table, 3, {}, {}),
                         lambda: rounded_range(plan, table, 3, counts, totals, ("moon", 0)),
                         lambda: rounded_papers(plan, table, 3, counts, totals, ("moon", 0)),
                         lambda: check_rounded_paper(plan, table, 3, counts, totals, ("moon", 0), None)):
                with self.assertRaises(UnknownName) as caught:
                    call()
                self.assertEqual(caught.exception.name, table)

    def test_nothing_is_modified_and_results_are_new(self):
        census = samples.land_census()
        text = census_text(census)
        counts, totals = rounded_table(census, "jobs", 3)
        before = dict(counts), dict(totals)
        rounded_papers(census.plan, "jobs", 3, counts, totals, ("hill", 0))
        self.assertEqual((counts, totals), before)
        counts.clear()
        totals.clear()
        self.assertEqual(rounded_table(census, "jobs", 3), before)
        self.assertEqual(census_text(census), text)

import random
import unittest

import samples
from cellguard.census import census_text
from cellguard.costpapers import check_cost
from cellguard.counting import cells_of, counts_of, totals_of
from cellguard.errors import TooLarge, UnknownName
from cellguard.leastcost import least_pattern
from cellguard.rules import is_safe, pattern_cost, protected_cells

RULES = [(0, 1, 1), (2, 0, 0), (2, 1, 1), (3, 1, 2), (4, 0, 3), (4, 2, 2)]
SORTS = ("cells", "persons")


def all_safe_patterns(census, rule):
    """All safe patterns of the table, found by trying all patterns and all counts."""
    counts = counts_of(census, "t")
    totals = totals_of(census)
    tables = samples.all_tables(census.plan, "t", totals)
    cells = list(counts)
    safe = []
    for bits in range(2 ** len(cells)):
        pattern = [cell for at, cell in enumerate(cells) if bits >> at & 1]
        if not samples.tried_exposed(tables, counts, totals, rule, pattern):
            safe.append(pattern)
    return safe


class LeastPatternTest(unittest.TestCase):
    def assert_least(self, census, rule, sort, least, **more):
        found = least_pattern(census, "t", rule, sort=sort, **more)
        self.assertIs(type(found), tuple)
        pattern, paper = found
        self.assertIs(type(pattern), list)
        cells = cells_of(census.plan, "t")
        self.assertEqual(pattern, [cell for cell in cells if cell in pattern])
        self.assertLessEqual(set(protected_cells(census, "t", rule)), set(pattern))
        self.assertIs(is_safe(census, "t", rule, pattern), True)
        cost = pattern_cost(census, "t", rule, pattern, sort)
        self.assertEqual(cost, samples.tried_cost(counts_of(census, "t"), rule, pattern, sort))
        if least is not None:
            self.assertEqual(cost, least)
        self.assertIs(check_cost(census, "t", rule, sort, cost, paper), True)
        self.assertIs(check_cost(census, "t", rule, sort, cost - 1, paper), True)
        self.assertIs(check_cost(census, "t", rule, sort, cost + 1, paper), False)
        self.assertEqual(least_pattern(census, "t", rule, sort=sort, **more), found)
        return cost, paper

    def test_against_all_patterns(self):
        generator = random.Random(101)
        for plan in (samples.flat_plan(2, 2), samples.flat_plan(1, 3), samples.flat_plan(1, 4)):
            for _ in range(5):
                census = samples.random_census(plan, generator, (0, 1, 1, 2, 3))
                counts = counts_of(census, "t")
                for rule in RULES:
                    safe = all_safe_patterns(census, rule)
                    for sort in SORTS:
                        least = min(samples.tried_cost(counts, rule, pattern, sort) for pattern in safe)
                        self.assert_least(census, rule, sort, least)

    def test_three_levels(self):
        plan = samples.Plan([("top", None), ("left", "top"), ("x", "left"), ("z", "top")],
                            [("one", ["a", "b"])], [("t", [("one", [["a"], ["b"]])])])
        generator = random.Random(102)
        for _ in range(6):
            census = samples.random_census(plan, generator, (0, 1, 2, 4))
            counts = counts_of(census, "t")
            rule = generator.choice(RULES)
            safe = all_safe_patterns(census, rule)
            for sort in SORTS:
                self.assert_least(census, rule, sort, min(samples.tried_cost(counts, rule, one, sort) for one in safe))

    def test_larger_tables(self):
        # The paper shows that nothing costs less.
        generator = random.Random(103)
        for plan in (samples.flat_plan(4, 4), samples.triple_plan(), samples.flat_plan(6, 2)):
            for _ in range(4):
                census = samples.random_census(plan, generator, (0, 1, 2, 5, 40))
                for rule in RULES:
                    for sort in SORTS:
                        self.assert_least(census, rule, sort, None, most=30)

    def test_by_hand(self):
        plan = samples.flat_plan(3, 3)
        census = samples.census_of_rows(plan, {"l0": [1, 50, 60], "l1": [40, 9, 70], "l2": [80, 90, 99]})
        cost, paper = self.assert_least(census, (2, 1, 5), "cells", 3, most=15)
        cost, paper = self.assert_least(census, (2, 1, 5), "persons", 51 + 41 + 10, most=15)
        self.assertEqual(least_pattern(census, "t", (2, 1, 5), sort="persons", most=15)[0],
                         [("l0", 0), ("l0", 1), ("l1", 0), ("l1", 1)])

    def test_cells_is_the_sort_without_one(self):
        census = samples.random_census(samples.flat_plan(2, 3), random.Random(104), (1, 2, 9))
        self.assertEqual(least_pattern(census, "t", (2, 1, 1)), least_pattern(census, "t", (2, 1, 1), sort="cells", most=14))

    def test_no_protected_cells(self):
        census = samples.random_census(samples.flat_plan(3, 3), random.Random(105), (5, 6))
        for sort in SORTS:
            self.assertEqual(least_pattern(census, "t", (5, 1, 1), sort=sort, most=12), ([], ("cost",)))

    def test_only_protected_cells(self):
        census = samples.random_census(samples.flat_plan(2, 2), random.Random(106), (1, 2))
        pattern, paper = least_pattern(census, "t", (9, 9, 9), most=0)
        self.assertEqual(pattern, cells_of(census.plan, "t"))
        self.assertIs(check_cost(census, "t", (9, 9, 9), "cells", 0, paper), True)

    def test_too_large(self):
        # 12 and 18 cells; the default takes 14 that are not protected.
        census = samples.census_of_rows(samples.flat_plan(3, 3), {"l0": [1, 5, 5], "l1": [5, 5, 5], "l2": [1, 5, 5]})
        for most in (10, 11, 14, 100):
            self.assert_least(census, (2, 1, 1), "cells", None, most=most)
        for most in (9, 1, 0):
            with self.assertRaises(TooLarge):
                least_pattern(census, "t", (2, 1, 1), most=most)
            with self.assertRaises(TooLarge):
                least_pattern(census, "t", (2, 1, 1), sort="persons", most=most)
        rows = {"l0": [1, 1, 5], "l1": [5, 5, 5], "l2": [1, 5, 5], "l3": [1, 5, 5]}
        # All but 4 of 15 cells, then all but 3 of 18.
        self.assert_least(samples.census_of_rows(samples.flat_plan(4, 3), rows), (2, 1, 1), "cells", None)
        rows = {"l0": [1, 1, 5], "l1": [5, 5, 5], "l2": [1, 5, 5], "l3": [7, 5, 5], "l4": [5, 5, 5]}
        with self.assertRaises(TooLarge):
            least_pattern(samples.census_of_rows(samples.flat_plan(5, 3), rows), "t", (2, 1, 1))
        # All cells count, even if nothing must be hidden.
        with self.assertRaises(TooLarge):
            least_pattern(samples.census_of_rows(samples.flat_plan(5, 3), rows), "t", (0, 0, 0))
        self.assertEqual(least_pattern(samples.census_of_rows(samples.flat_plan(5, 3), rows), "t", (0, 0, 0), most=18),
                         ([], ("cost",)))

    def test_exactly_fourteen(self):
        rows = {"l0": [1, 5, 5], "l1": [5, 5, 5], "l2": [5, 5, 5], "l3": [5, 5, 5]}
        plan = samples.flat_plan(4, 3)
        self.assert_least(samples.census_of_rows(plan, rows), (2, 1, 1), "cells", 3)
        with self.assertRaises(TooLarge):
            least_pattern(samples.census_of_rows(plan, {**rows, "l0": [5, 5, 5]}), "t", (2, 1, 1))

    def test_unknown_tables_come_first(self):
        census = samples.land_census()
        for table in ("age", "people1"):
            for most in (0, 14, 99):
                with self.assertRaises(UnknownName) as caught:
                    least_pattern(census, table, (3, 1, 1), most=most)
                self.assertEqual(caught.exception.name, table)

    def test_sort_and_most_are_passed_by_keyword(self):
        with self.assertRaises(TypeError):
            least_pattern(samples.land_census(), "jobs", (3, 1, 1), "cells")

    def test_nothing_is_modified(self):
        census = samples.land_census()
        text = census_text(census)
        least_pattern(census, "jobs", (3, 1, 1))[0].clear()
        self.assertTrue(least_pattern(census, "jobs", (3, 1, 1))[0])
        self.assertEqual(census_text(census), text)

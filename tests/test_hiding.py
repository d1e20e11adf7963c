import random
import unittest
from itertools import combinations

import samples
from cellguard.census import census_text
from cellguard.counting import cells_of, counts_of, totals_of
from cellguard.errors import InvalidPattern, UnknownName
from cellguard.hiding import tight_pattern, tightened
from cellguard.rules import exposed_cells, is_safe, protected_cells

RULES = [(0, 1, 1), (1, 5, 5), (2, 0, 0), (2, 1, 1), (3, 1, 2), (4, 0, 3), (4, 2, 2), (9, 9, 9)]
SORTS = ("cells", "persons")


def without(pattern, cell):
    return [other for other in pattern if other != cell]


class TightTest(unittest.TestCase):
    def assert_tight(self, census, rule, pattern, inside):
        """A list of cells of the table, within another one, is safe, and not without any of its further cells."""
        self.assertIs(type(pattern), list)
        cells = cells_of(census.plan, "t")
        self.assertEqual(pattern, [cell for cell in cells if cell in pattern])
        self.assertLessEqual(set(pattern), set(inside))
        self.assertIs(is_safe(census, "t", rule, pattern), True)
        protected = protected_cells(census, "t", rule)
        self.assertLessEqual(set(protected), set(pattern))
        for cell in pattern:
            if cell not in protected:
                self.assertIs(is_safe(census, "t", rule, without(pattern, cell)), False)

    def censuses(self, generator):
        for plan in (samples.triple_plan(), samples.flat_plan(3, 3), samples.flat_plan(5, 2), samples.flat_plan(1, 4)):
            for choices in ((0, 1, 1, 2), (0, 1, 3, 20), (2, 5, 9)):
                yield samples.random_census(plan, generator, choices)

    def test_tight_patterns(self):
        for census in self.censuses(random.Random(81)):
            cells = cells_of(census.plan, "t")
            for rule in RULES:
                self.assert_tight(census, rule, tight_pattern(census, "t", rule), cells)
                for sort in SORTS:
                    found = tight_pattern(census, "t", rule, sort=sort)
                    self.assert_tight(census, rule, found, cells)
                    self.assertEqual(tight_pattern(census, "t", rule, sort=sort), found)
                self.assertEqual(tight_pattern(census, "t", rule), tight_pattern(census, "t", rule, sort="cells"))

    def test_tight_patterns_by_trying_all_counts(self):
        generator = random.Random(82)
        for plan in (samples.triple_plan(), samples.flat_plan(2, 3)):
            for _ in range(4):
                census = samples.random_census(plan, generator, (0, 1, 1, 2))
                counts = counts_of(census, "t")
                totals = totals_of(census)
                tables = samples.all_tables(plan, "t", totals)
                for rule in RULES:
                    for found in (tight_pattern(census, "t", rule), tightened(census, "t", rule, list(counts))):
                        self.assertEqual(samples.tried_exposed(tables, counts, totals, rule, found), [])
                        for cell in found:
                            if not 1 <= counts[cell] < rule[0]:
                                self.assertTrue(samples.tried_exposed(tables, counts, totals, rule, without(found, cell)))

    def test_tightened(self):
        generator = random.Random(83)
        for census in self.censuses(generator):
            cells = cells_of(census.plan, "t")
            for rule in RULES:
                self.assert_tight(census, rule, tightened(census, "t", rule, cells), cells)
                for _ in range(3):
                    pattern = [cell for cell in cells if generator.random() < 0.85]
                    before = list(pattern)
                    if is_safe(census, "t", rule, pattern):
                        found = tightened(census, "t", rule, pattern)
                        self.assert_tight(census, rule, found, pattern)
                        self.assertEqual(tightened(census, "t", rule, found), found)
                    else:
                        with self.assertRaises(InvalidPattern):
                            tightened(census, "t", rule, pattern)
                    self.assertEqual(pattern, before)

    def test_tables_of_some_size(self):
        generator = random.Random(86)
        plan = samples.Plan([("top", None), ("a", "top"), ("b", "top")] + [(f"a{k}", "a") for k in range(3)]
                            + [(f"b{k}", "b") for k in range(4)], [("one", list("abcde"))],
                            [("t", [("one", [[letter] for letter in "abcde"])])])
        for _ in range(8):
            census = samples.random_census(plan, generator, (0, 1, 2, 3, 6, 12, 30))
            cells = cells_of(plan, "t")
            for rule in ((3, 2, 2), (7, 5, 5), (4, 3, 20)):
                self.assert_tight(census, rule, tight_pattern(census, "t", rule, sort="persons"), cells)
                self.assert_tight(census, rule, tightened(census, "t", rule, cells), cells)

    def test_no_protected_cells(self):
        census = samples.random_census(samples.triple_plan(), random.Random(84), (0, 5))
        for rule in ((0, 9, 9), (1, 9, 9), (4, 1, 1)):
            for sort in SORTS:
                self.assertEqual(tight_pattern(census, "t", rule, sort=sort), [])
            self.assertEqual(tightened(census, "t", rule, cells_of(census.plan, "t")), [])
            self.assertEqual(tightened(census, "t", rule, [("x", 1)]), [])
            self.assertEqual(tightened(census, "t", rule, []), [])

    def test_by_hand(self):
        # (l0, 0) must be hidden with one more row and one more column, or with the total of a column.
        plan = samples.flat_plan(3, 3)
        census = samples.census_of_rows(plan, {"l0": [1, 50, 60], "l1": [40, 9, 70], "l2": [80, 90, 99]})
        rule = (2, 1, 5)
        for sort in SORTS:
            found = tight_pattern(census, "t", rule, sort=sort)
            self.assert_tight(census, rule, found, cells_of(plan, "t"))
            self.assertEqual(len(found), 4)
        self.assertEqual(tight_pattern(census, "t", rule, sort="persons"), [("l0", 0), ("l0", 1), ("l1", 0), ("l1", 1)])
        square = [("l0", 0), ("l0", 2), ("l2", 0), ("l2", 2)]
        self.assertEqual(tightened(census, "t", rule, square), square)
        larger = [("top", 1)] + square
        self.assertEqual(tightened(census, "t", rule, larger), square)
        larger = [("l0", 0), ("l0", 2), ("l1", 1), ("l2", 0), ("l2", 2)]
        self.assertEqual(tightened(census, "t", rule, larger), square)

    def test_little_cost(self):
        # Compared with the least cost of all safe patterns of small tables.
        generator = random.Random(85)
        least = {sort: 0 for sort in SORTS}
        found = {sort: 0 for sort in SORTS}
        for _ in range(40):
            census = samples.random_census(samples.flat_plan(2, 3), generator, (0, 1, 2, 3, 9))
            counts = counts_of(census, "t")
            rule = generator.choice(((2, 1, 1), (3, 1, 2), (3, 2, 2)))
            for sort in SORTS:
                found[sort] += samples.tried_cost(counts, rule, tight_pattern(census, "t", rule, sort=sort), sort)
                least[sort] += self.least_cost(census, counts, rule, sort)
        for sort in SORTS:
            self.assertLessEqual(least[sort], found[sort])
            self.assertLess(20 * found[sort], 21 * least[sort])

    def least_cost(self, census, counts, rule, sort):
        protected = protected_cells(census, "t", rule)
        others = [cell for cell in counts if cell not in protected]
        costs = []
        for many in range(len(others) + 1):
            for chosen in combinations(others, many):
                cost = samples.tried_cost(counts, rule, chosen, sort)
                if not costs or cost < min(costs):
                    if is_safe(census, "t", rule, [cell for cell in counts if cell in protected or cell in chosen]):
                        costs.append(cost)
        return min(costs)


class ErrorsTest(unittest.TestCase):
    def setUp(self):
        self.census = samples.land_census()
        self.rule = (3, 1, 1)

    def test_patterns_that_are_not_safe(self):
        protected = protected_cells(self.census, "people", self.rule)
        self.assertTrue(exposed_cells(self.census, "people", self.rule, protected))
        for pattern in (protected, [], protected[1:], without(cells_of(self.census.plan, "people"), protected[0])):
            with self.assertRaises(InvalidPattern):
                tightened(self.census, "people", self.rule, pattern)

    def test_no_patterns(self):
        cells = cells_of(self.census.plan, "people")
        for pattern in (cells[::-1], cells + cells[-1:], cells + [("moon", 0)], cells + [("dale", 4)], [("land", -1)] + cells):
            for rule in (self.rule, (0, 0, 0)):
                with self.assertRaises(InvalidPattern):
                    tightened(self.census, "people", rule, pattern)

    def test_unknown_tables_come_first(self):
        for table in ("age", "people1"):
            for call in (lambda: tight_pattern(self.census, table, self.rule),
                         lambda: tight_pattern(self.census, table, self.rule, sort="persons"),
                         lambda: tightened(self.census, table, self.rule, []),
                         lambda: tightened(self.census, table, self.rule, [("moon", 0)])):
                with self.assertRaises(UnknownName) as caught:
                    call()
                self.assertEqual(caught.exception.name, table)

    def test_sort_is_passed_by_keyword(self):
        with self.assertRaises(TypeError):
            tight_pattern(self.census, "people", self.rule, "cells")

    def test_nothing_is_modified(self):
        text = census_text(self.census)
        tight_pattern(self.census, "people", self.rule).clear()
        self.assertTrue(tight_pattern(self.census, "people", self.rule))
        self.assertEqual(census_text(self.census), text)

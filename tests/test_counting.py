import unittest

import samples
from cellguard.census import Census
from cellguard.counting import cells_of, counts_fit, counts_of, totals_of
from cellguard.errors import UnknownName
from cellguard.plan import Plan

AREAS = ["land", "north", "south", "hill", "dale"]
PEOPLE = {
    "land": [2, 3, 6, 4], "north": [2, 0, 5, 4], "south": [0, 3, 1, 0], "hill": [2, 0, 0, 4], "dale": [0, 0, 5, 0],
}
JOBS = {"land": [9, 6], "north": [9, 2], "south": [0, 4], "hill": [4, 2], "dale": [5, 0]}
TOTALS = {"land": 15, "north": 11, "south": 4, "hill": 6, "dale": 5}


def cells_from(rows):
    return {(area, number): count for area in AREAS for number, count in enumerate(rows[area])}


class CountingTest(unittest.TestCase):
    def setUp(self):
        self.census = samples.land_census()
        self.plan = self.census.plan

    def test_cells(self):
        self.assertEqual(cells_of(self.plan, "jobs"), [
            ("land", 0), ("land", 1), ("north", 0), ("north", 1), ("south", 0), ("south", 1),
            ("hill", 0), ("hill", 1), ("dale", 0), ("dale", 1)])
        self.assertEqual(cells_of(self.plan, "people"), [(area, number) for area in AREAS for number in range(4)])

    def test_counts(self):
        self.assertEqual(counts_of(self.census, "people"), cells_from(PEOPLE))
        self.assertEqual(counts_of(self.census, "jobs"), cells_from(JOBS))

    def test_order_of_the_keys(self):
        self.assertEqual(list(counts_of(self.census, "people")), cells_of(self.plan, "people"))
        self.assertEqual(list(totals_of(self.census)), AREAS)

    def test_totals(self):
        self.assertEqual(totals_of(self.census), TOTALS)

    def test_empty_census(self):
        census = Census(self.plan, [])
        self.assertEqual(set(counts_of(census, "people").values()), {0})
        self.assertEqual(list(counts_of(census, "people")), cells_of(self.plan, "people"))
        self.assertEqual(totals_of(census), dict.fromkeys(AREAS, 0))

    def test_tree_of_one_area(self):
        plan = Plan([("land", None)], [("age", ["a", "b"])], [("t", [("age", [["b"], ["a"]])])])
        census = Census(plan, [(("land", ("a",)), 3), (("land", ("b",)), 1)])
        self.assertEqual(counts_of(census, "t"), {("land", 0): 1, ("land", 1): 3})
        self.assertEqual(totals_of(census), {"land": 4})

    def test_deep_tree(self):
        areas = [("a0", None), ("b0", "a0")]
        for level in range(1, 30):
            areas += [(f"a{level}", f"a{level - 1}"), (f"b{level}", f"a{level}")]
        plan = Plan(areas, [("age", ["x", "y"])], [("t", [("age", [["x"], ["y"]])])])
        census = Census(plan, [((leaf, ("y",)), 1) for leaf in plan.areas.leaves()])
        counts = counts_of(census, "t")
        for level in range(30):
            self.assertEqual(counts[(f"a{level}", 1)], 30 - level)
            self.assertEqual(counts[(f"a{level}", 0)], 0)
            self.assertEqual(totals_of(census)[f"a{level}"], 30 - level)

    def test_results_are_new(self):
        counts_of(self.census, "jobs").clear()
        totals_of(self.census).clear()
        cells_of(self.plan, "jobs").clear()
        self.assertEqual(counts_of(self.census, "jobs"), cells_from(JOBS))
        self.assertEqual(totals_of(self.census), TOTALS)
        self.assertEqual(len(cells_of(self.plan, "jobs")), 10)

    def test_unknown_tables(self):
        for call in (lambda: cells_of(self.plan, "age"), lambda: counts_of(self.census, "age"),
                     lambda: counts_fit(self.plan, "age", {}, {})):
            with self.assertRaises(UnknownName) as caught:
                call()
            self.assertEqual(caught.exception.name, "age")


class CountsFitTest(unittest.TestCase):
    def setUp(self):
        self.plan = samples.land_plan()

    def assert_fit(self, wanted, counts, totals, table="people"):
        self.assertIs(counts_fit(self.plan, table, counts, totals), wanted)

    def test_of_a_census(self):
        self.assert_fit(True, cells_from(PEOPLE), TOTALS)
        self.assert_fit(True, cells_from(JOBS), TOTALS, "jobs")
        empty = Census(self.plan, [])
        self.assert_fit(True, counts_of(empty, "people"), totals_of(empty))

    def test_one_number_changed(self):
        for cell in cells_of(self.plan, "people"):
            for change in (1, -1, -20):
                counts = cells_from(PEOPLE)
                counts[cell] += change
                self.assert_fit(False, counts, TOTALS)
        for area in AREAS:
            for change in (1, -1, -20):
                self.assert_fit(False, cells_from(PEOPLE), {**TOTALS, area: TOTALS[area] + change})

    def test_each_rule_alone(self):
        # The counts of the inner areas are the sums, but a leaf has another total.
        self.assert_fit(False, cells_from(JOBS), {**TOTALS, "hill": 7, "north": 12, "land": 16}, "jobs")
        # The total of an inner area is not the sum, while the counts are.
        self.assert_fit(False, cells_from(JOBS), {**TOTALS, "north": 12}, "jobs")
        self.assert_fit(False, cells_from(JOBS), {**TOTALS, "land": 14}, "jobs")
        # The classes of an inner area sum to its total, but each of them is another sum.
        self.assert_fit(False, cells_from({**JOBS, "north": [8, 3]}), TOTALS, "jobs")
        self.assert_fit(False, cells_from({**JOBS, "land": [10, 5]}), TOTALS, "jobs")
        # All sums are right, but a count is negative.
        negative = {"land": [8, 7], "north": [10, 1], "south": [-2, 6], "hill": [4, 2], "dale": [6, -1]}
        self.assert_fit(False, cells_from(negative), TOTALS, "jobs")
        self.assert_fit(False, cells_from({**JOBS, "dale": [6, -1], "north": [10, 1], "land": [10, 5]}), TOTALS, "jobs")

    def test_negative_totals(self):
        plan = Plan([("land", None)], [("age", ["a", "b"])], [("t", [("age", [["a"], ["b"]])])])
        self.assertIs(counts_fit(plan, "t", {("land", 0): -1, ("land", 1): 0}, {"land": -1}), False)
        self.assertIs(counts_fit(plan, "t", {("land", 0): -1, ("land", 1): 1}, {"land": 0}), False)
        self.assertIs(counts_fit(plan, "t", {("land", 0): 0, ("land", 1): 0}, {"land": 0}), True)

    def test_wrong_keys(self):
        for cell in cells_of(self.plan, "people"):
            counts = cells_from(PEOPLE)
            del counts[cell]
            self.assert_fit(False, counts, TOTALS)
            self.assert_fit(False, {**counts, ("west", 0): PEOPLE[cell[0]][cell[1]]}, TOTALS)
        self.assert_fit(False, {**cells_from(PEOPLE), ("land", 4): 0}, TOTALS)
        self.assert_fit(False, {**cells_from(PEOPLE), ("west", 0): 0}, TOTALS)
        self.assert_fit(False, {**cells_from(PEOPLE), ("land", -1): 0}, TOTALS)
        for area in AREAS:
            self.assert_fit(False, cells_from(PEOPLE), {name: TOTALS[name] for name in AREAS if name != area})
        self.assert_fit(False, cells_from(PEOPLE), {**TOTALS, "west": 0})
        self.assert_fit(False, {}, TOTALS)
        self.assert_fit(False, cells_from(PEOPLE), {})
        self.assert_fit(False, cells_from(PEOPLE), TOTALS, "jobs")

    def test_other_orders_of_the_keys(self):
        counts = cells_from(PEOPLE)
        self.assert_fit(True, {cell: counts[cell] for cell in list(counts)[::-1]}, dict(list(TOTALS.items())[::-1]))

    def test_arguments_stay(self):
        counts = cells_from(PEOPLE)
        totals = dict(TOTALS)
        counts_fit(self.plan, "people", counts, totals)
        self.assertEqual((counts, totals), (cells_from(PEOPLE), TOTALS))

import random
import unittest
from itertools import product

import samples
from cellguard.census import Census
from cellguard.counting import cells_of, counts_of, totals_of
from cellguard.errors import InvalidPattern, InvalidRecord, UnknownName
from cellguard.rules import protected_cells
from cellguard.swapping import disguised_cells, first_swap, swapped

HILL = ("hill", ("adult", "m", "yes"))
HILL_CHILD = ("hill", ("child", "f", "no"))
DALE = ("dale", ("old", "f", "yes"))
SOUTH = ("south", ("old", "f", "no"))


def census_with(changes):
    """The census of the land, with some numbers of records changed."""
    census = samples.land_census()
    records = dict(census.records())
    for record, change in changes.items():
        records[record] = records.get(record, 0) + change
    return Census(census.plan, list(records.items())).records()


class SwappedTest(unittest.TestCase):
    def test_one_swap(self):
        census = samples.land_census()
        found = swapped(census, [(HILL, DALE)])
        self.assertIsInstance(found, Census)
        self.assertEqual(found.records(), census_with({HILL: -1, DALE: -1, ("dale", HILL[1]): 1, ("hill", DALE[1]): 1}))
        self.assertIs(found.plan, census.plan)
        self.assertEqual(swapped(census, []).records(), census.records())
        self.assertIsNot(swapped(census, []), census)

    def test_one_swap_after_the_other(self):
        census = samples.land_census()
        there = [(HILL, DALE), (("dale", HILL[1]), ("hill", DALE[1]))]
        self.assertEqual(swapped(census, there).records(), census.records())
        # The second one takes what the first one put in; alone or earlier it cannot be made.
        for swaps in (there[1:], there[::-1]):
            with self.assertRaises(InvalidRecord):
                swapped(census, swaps)
        twice = [(HILL, DALE), (HILL, DALE)]
        self.assertEqual(swapped(census, twice).records(), census_with({HILL: -2, DALE: -2, ("dale", HILL[1]): 2, ("hill", DALE[1]): 2}))

    def test_records_that_occur_several_times(self):
        census = samples.land_census()
        # The hill has two children, so that two swaps can take one, but a third one cannot.
        swap = (HILL_CHILD, DALE)
        found = swapped(census, [swap, swap])
        self.assertEqual((found.number(HILL_CHILD), found.number(("dale", HILL_CHILD[1]))), (0, 2))
        with self.assertRaises(InvalidRecord):
            swapped(census, [swap, swap, swap])
        self.assertEqual(swapped(census, [swap, swap, (("dale", HILL_CHILD[1]), HILL), swap]).number(HILL_CHILD), 0)

    def test_equal_values(self):
        # Both have the same values, so that nothing changes.
        census = samples.land_census()
        census.add(("dale", HILL[1]), 1)
        self.assertEqual(swapped(census, [(HILL, ("dale", HILL[1]))]).records(), census.records())

    def test_swaps_that_cannot_be_made(self):
        census = samples.land_census()
        for swap in ((HILL, HILL_CHILD), (HILL, HILL), (HILL, SOUTH), (SOUTH, DALE), (("dale", HILL_CHILD[1]), HILL), (HILL, ("dale", SOUTH[1])),
                     (("moon", HILL[1]), DALE), (HILL, ("moon", DALE[1])), (("north", HILL[1]), ("south", HILL[1])),
                     (HILL, ("dale", ("old", "f"))), (HILL, ("dale", ("old", "f", "maybe"))), (("land", HILL[1]), DALE)):
            for before in ([], [(HILL, DALE)]):
                for behind in ([], [(HILL, DALE)]):
                    with self.assertRaises(InvalidRecord):
                        swapped(census, before + [swap] + behind)
        self.assertEqual(census.records(), samples.land_census().records())

    def test_what_stays(self):
        generator = random.Random(281)
        areas = [("top", None), ("left", "top"), ("x", "left"), ("y", "left"), ("w", "left"), ("z", "top"), ("v", "top")]
        plan = samples.Plan(areas, [("one", ["a", "b", "c"])], [("t", [("one", [["b"], ["c", "a"]])])])
        for _ in range(20):
            census = samples.random_census(plan, generator, (0, 1, 2))
            records = census.records()
            tries = [(first, second) for (first, _), (second, _) in product(records, records)
                     if first[0] != second[0] and plan.areas.parent(first[0]) == plan.areas.parent(second[0])]
            if not tries:
                continue
            first, second = generator.choice(tries)
            found = swapped(census, [(first, second)])
            self.assertEqual(census.records(), records)
            self.assertEqual(totals_of(found), totals_of(census))
            before, behind = counts_of(census, "t"), counts_of(found, "t")
            for cell in before:
                if cell[0] not in (first[0], second[0]):
                    self.assertEqual(behind[cell], before[cell])
            for record, sign in ((first, -1), (second, -1), ((second[0], first[1]), 1), ((first[0], second[1]), 1)):
                same = first[1] == second[1]
                self.assertEqual(found.number(record), census.number(record) + (0 if same else sign))
            self.assertEqual(found.people(), census.people())

    def test_the_census_is_as_before(self):
        census = samples.land_census()
        swaps = [(HILL, DALE)]
        found = swapped(census, swaps)
        found.add(HILL, 7)
        self.assertEqual(census.records(), samples.land_census().records())
        self.assertEqual(swaps, [(HILL, DALE)])


class DisguisedCellsTest(unittest.TestCase):
    def test_by_hand(self):
        # Protected in the people: (south, 2) with 1 old woman, (hill, 0) with 2 girls; above them (land, 0) and (north, 0).
        census = samples.land_census()
        rule = (3, 1, 1)
        self.assertEqual(protected_cells(census, "people", rule), [("land", 0), ("north", 0), ("south", 2), ("hill", 0)])
        girl, man, woman = HILL_CHILD, HILL, DALE
        for swaps, cells in (
                ([], []),
                ([(girl, woman)], [("hill", 0)]),
                ([(woman, girl)], [("hill", 0)]),
                # The record lies in the cell with its area exchanged.
                ([(man, ("dale", girl[1]))], [("hill", 0)]),
                ([(("dale", girl[1]), man)], [("hill", 0)]),
                # Neither record has to do with the cell.
                ([(man, woman)], []),
                # Both have the class of the cell.
                ([(girl, ("dale", girl[1]))], []),
                ([(girl, ("dale", girl[1])), (man, woman)], []),
                ([(girl, ("dale", girl[1])), (girl, woman)], [("hill", 0)]),
                ([(man, woman), (woman, girl), (girl, woman)], [("hill", 0)])):
            self.assertEqual(disguised_cells(census, "people", rule, swaps), cells)
        # In the jobs both have the same class.
        rule = (4, 1, 1)
        self.assertEqual(disguised_cells(census, "jobs", rule, [(girl, woman)]), [("hill", 1)])
        self.assertEqual(disguised_cells(census, "jobs", rule, [(man, woman)]), [])
        self.assertEqual(disguised_cells(census, "jobs", (0, 1, 1), [(girl, woman)]), [])

    def test_values_of_the_same_class(self):
        # An adult woman and an old one are in the same class of the people.
        census = samples.land_census()
        census.add(("hill", ("adult", "f", "no")), 1)
        self.assertIn(("hill", 2), protected_cells(census, "people", (3, 1, 1)))
        self.assertEqual(disguised_cells(census, "people", (3, 1, 1), [(("hill", ("adult", "f", "no")), DALE)]), [])
        self.assertEqual(disguised_cells(census, "people", (3, 1, 1), [(HILL, DALE)]), [("hill", 2)])

    def test_against_the_definition(self):
        generator = random.Random(282)
        plan = samples.triple_plan()
        sizes = set()
        for _ in range(40):
            census = samples.random_census(plan, generator, (0, 1, 2, 4))
            rule = (generator.choice((0, 2, 3, 5)), 1, 1)
            swaps = [(("x", (generator.choice("abc"),)), ("y", (generator.choice("abc"),)))[::generator.choice((1, -1))]
                     for _ in range(generator.randrange(4))]
            wanted = []
            for cell in protected_cells(census, "t", rule):
                for (first, one), (second, two) in swaps:
                    classes = [plan.class_of("t", values) for values in (one, two)]
                    lying = [(area, number) for area in (first, second) for number in classes]
                    if classes[0] != classes[1] and cell in lying and cell not in wanted:
                        wanted.append(cell)
            self.assertEqual(disguised_cells(census, "t", rule, swaps), wanted)
            sizes.add(len(wanted))
        self.assertGreater(len(sizes), 2)

    def test_unknown_names(self):
        for table in ("age", "zoo"):
            with self.assertRaises(UnknownName) as caught:
                disguised_cells(samples.land_census(), table, (3, 1, 1), [])
            self.assertEqual(caught.exception.name, table)
            with self.assertRaises(UnknownName) as caught:
                first_swap(samples.land_census(), table, ("moon", 9))
            self.assertEqual(caught.exception.name, table)


class FirstSwapTest(unittest.TestCase):
    def assert_swap(self, census, table, cell):
        """A swap is as the document says, or there is none, tried over all pairs of records."""
        plan = census.plan
        records = [record for record, _ in census.records()]
        pairs = [(one, two) for one, two in product(records, records)
                 if (one[0], plan.class_of(table, one[1])) == cell and plan.class_of(table, two[1]) != cell[1]
                 and one[0] != two[0] and plan.areas.parent(one[0]) == plan.areas.parent(two[0])]
        found = first_swap(census, table, cell)
        if not pairs:
            self.assertIsNone(found)
            return 0
        self.assertIs(type(found), tuple)
        self.assertIn(found, pairs)
        swapped(census, [found])
        if cell in protected_cells(census, table, (9, 1, 1)):
            self.assertIn(cell, disguised_cells(census, table, (9, 1, 1), [found]))
        return 1

    def test_of_the_land(self):
        census = samples.land_census()
        for table in ("people", "jobs"):
            for cell in cells_of(census.plan, table):
                if census.plan.areas.is_leaf(cell[0]):
                    self.assert_swap(census, table, cell)
        self.assertEqual(first_swap(census, "people", ("hill", 0)), (HILL_CHILD, DALE))
        self.assertEqual(first_swap(census, "people", ("dale", 2)), (DALE, first_swap(census, "people", ("dale", 2))[1]))
        # The south has no leaf beside it; everybody in the dale works; nobody of the dale is a child.
        self.assertIsNone(first_swap(census, "people", ("south", 2)))
        self.assertIsNone(first_swap(census, "jobs", ("hill", 0)))
        self.assertIsNone(first_swap(census, "people", ("dale", 0)))

    def test_against_all_pairs(self):
        generator = random.Random(283)
        found = []
        for plan in (samples.triple_plan(), samples.flat_plan(3, 2), samples.flat_plan(1, 2)):
            for _ in range(25):
                census = samples.random_census(plan, generator, (0, 0, 1))
                for cell in cells_of(plan, "t"):
                    if plan.areas.is_leaf(cell[0]):
                        found.append(self.assert_swap(census, "t", cell))
        self.assertTrue(50 < sum(found) < len(found) - 50)

    def test_a_single_area(self):
        plan = samples.Plan([("top", None)], [("one", ["a", "b"])], [("t", [("one", [["a"], ["b"]])])])
        census = samples.census_of_rows(plan, {"top": [1, 5]})
        self.assertIsNone(first_swap(census, "t", ("top", 0)))

    def test_cells_that_are_none_of_a_leaf(self):
        census = samples.land_census()
        for cell in (("land", 0), ("north", 1), ("moon", 0), ("hill", 4), ("hill", -1), ("people", 0)):
            with self.assertRaises(InvalidPattern):
                first_swap(census, "people", cell)

import random
import unittest
from itertools import combinations

import samples
from cellguard.census import Census
from cellguard.coarser import derived_ranges, finest_grouping, suits
from cellguard.counting import cells_of, counts_of, totals_of
from cellguard.errors import InvalidPattern, InvalidPublication, UnknownName
from cellguard.publication import Publication, agrees, publish
from cellguard.ranges import cell_range
from cellguard.sums import sum_range

SQUARE = [("hill", 0), ("hill", 1), ("dale", 0), ("dale", 1)]


def random_merging(generator, size):
    numbers = generator.sample(range(size), size)
    cuts = sorted(generator.sample(range(1, size), generator.randrange(size)))
    return [numbers[start:end] for start, end in zip([0] + cuts, cuts + [size])]


class DerivedRangesTest(unittest.TestCase):
    def test_by_hand(self):
        publication = publish(samples.land_census(), {"jobs": SQUARE})
        found = derived_ranges(publication, "jobs", [[1], [0]])
        self.assertIs(type(found), dict)
        self.assertEqual(found, {("land", 0): (6, 6), ("land", 1): (9, 9), ("north", 0): (2, 2), ("north", 1): (9, 9),
                                 ("south", 0): (4, 4), ("south", 1): (0, 0), ("hill", 0): (0, 2), ("hill", 1): (4, 6),
                                 ("dale", 0): (0, 2), ("dale", 1): (3, 5)})
        for ends in found.values():
            self.assertIs(type(ends), tuple)
        self.assertEqual(derived_ranges(publication, "jobs", [[1, 0]]),
                         {(area, 0): (total, total) for area, total in publication.totals().items()})

    def test_against_sum_range(self):
        generator = random.Random(241)
        census = samples.land_census()
        cells = cells_of(census.plan, "people")
        for _ in range(12):
            publication = publish(census, {"people": [cell for cell in cells if generator.random() < 0.8], "jobs": []})
            merging = random_merging(generator, 4)
            copy = [list(numbers) for numbers in merging]
            found = derived_ranges(publication, "people", merging)
            self.assertEqual(merging, copy)
            self.assertEqual(set(found), {(area, at) for area in census.plan.areas.names() for at in range(len(merging))})
            for (area, at), ends in found.items():
                self.assertEqual(ends, sum_range(publication, "people", {(area, number): 1 for number in merging[at]}))
            apart = derived_ranges(publication, "people", [[3], [1], [0], [2]])
            for area, number in cells:
                self.assertEqual(apart[(area, [3, 1, 0, 2].index(number))], cell_range(publication, "people", (area, number)))

    def test_against_all_tables(self):
        generator = random.Random(242)
        widths = set()
        for plan in (samples.triple_plan(), samples.flat_plan(2, 4), samples.flat_plan(3, 3)):
            for _ in range(10):
                census = samples.random_census(plan, generator, (0, 1, 1, 2))
                counts = counts_of(census, "t")
                pattern = [cell for cell in counts if generator.random() < 0.85]
                tables = samples.agreeing_tables(samples.all_tables(plan, "t", totals_of(census)), counts, pattern)
                merging = random_merging(generator, len(plan.classes("t")))
                for (area, at), ends in derived_ranges(publish(census, {"t": pattern}), "t", merging).items():
                    values = [sum(table[(area, number)] for number in merging[at]) for table in tables]
                    self.assertEqual(ends, (min(values), max(values)))
                    widths.add(ends[1] - ends[0])
        self.assertGreater(len(widths), 4)

    def test_against_all_censuses(self):
        generator = random.Random(243)
        plan = samples.pair_plan()
        censuses = list(samples.all_censuses(plan, {"x": 2, "y": 1, "z": 2}))
        for _ in range(4):
            publication = publish(generator.choice(censuses), {table: [cell for cell in cells_of(plan, table)
                                                                        if generator.random() < 0.8] for table in ("first", "second")})
            agreeing = [counts_of(census, "first") for census in censuses if agrees(census, publication)]
            for merging in ([[0], [1]], [[1], [0]], [[1, 0]]):
                for (area, at), ends in derived_ranges(publication, "first", merging).items():
                    values = [sum(counts[(area, number)] for number in merging[at]) for counts in agreeing]
                    self.assertEqual(ends, (min(values), max(values)))

    def test_errors_in_their_order(self):
        census = samples.land_census()
        totals = totals_of(census)
        broken = Publication(census.plan, {**totals, "land": 14}, {"people": counts_of(census, "people")})
        good = publish(census, {"people": cells_of(census.plan, "people")})
        for publication in (good, broken):
            for table in ("jobs", "zoo"):
                for merging in ([[0, 1]], [[0]]):
                    with self.assertRaises(UnknownName) as caught:
                        derived_ranges(publication, table, merging)
                    self.assertEqual(caught.exception.name, table)
            for merging in ([], [[]], [[0, 1, 2]], [[0], [1], [2], [3], [3]], [[0, 1], [1, 2, 3]], [[0, 0, 1, 2, 3]],
                            [[0, 1, 2, 3, 4]], [[0, 1, 2], [4]], [[0, 1, 2, 3], [-1]], [[-1, 1, 2, 3]], [[0, 1], [], [2, 3]],
                            [[0, 1, 2, 3], []]):
                with self.assertRaises(InvalidPattern):
                    derived_ranges(publication, "people", merging)
        with self.assertRaises(InvalidPublication):
            derived_ranges(broken, "people", [[0, 1, 2, 3]])
        people = counts_of(census, "people")
        for broken in (Publication(census.plan, totals, {"people": {**people, ("hill", 0): 3}}),
                       Publication(census.plan, totals, {"people": people, "jobs": {**counts_of(census, "jobs"), ("dale", 0): 6}})):
            with self.assertRaises(InvalidPublication):
                derived_ranges(broken, "people", [[0, 1], [2, 3]])

    def test_results_are_new(self):
        publication = publish(samples.land_census(), {"jobs": SQUARE})
        first = derived_ranges(publication, "jobs", [[0], [1]])
        first.clear()
        self.assertEqual(len(derived_ranges(publication, "jobs", [[0], [1]])), 10)


def run_groupings(values):
    """All groupings into runs of consecutive values."""
    places = range(1, len(values))
    for many in range(len(values)):
        for cuts in combinations(places, many):
            yield [values[start:end] for start, end in zip((0,) + cuts, cuts + (len(values),))]


def tried_suits(census, attribute, grouping, threshold):
    """Whether all counts in all areas are 0 or large enough, counted record by record."""
    plan = census.plan
    at = [name for name, _ in plan.attributes()].index(attribute)
    for area in plan.areas.names():
        below = plan.areas.leaves_below(area)
        for group in grouping:
            count = sum(number for (leaf, values), number in census.records() if leaf in below and values[at] in group)
            if 0 < count < threshold:
                return False
    return True


def value_plan(many):
    """A tree of three levels, and an attribute with a number of values beside one that the table has."""
    areas = [("top", None), ("left", "top"), ("x", "left"), ("y", "left"), ("z", "top")]
    values = [f"v{k}" for k in range(many)]
    return samples.Plan(areas, [("sex", ["f", "m"]), ("age", values)], [("t", [("sex", [["f"], ["m"]])])])


def value_census(plan, generator, choices):
    values = plan.attributes()[1][1]
    return Census(plan, [((leaf, (sex, value)), generator.choice(choices)) for leaf in plan.areas.leaves()
                         for sex in ("f", "m") for value in values])


class GroupingTest(unittest.TestCase):
    def test_by_hand(self):
        census = samples.land_census()
        # child: 3 in the south, 2 in the hill; adult: 4 in the hill; old: 1 in the south, 5 in the dale.
        apart = [["child"], ["adult"], ["old"]]
        for threshold in (0, 1):
            self.assertIs(suits(census, "age", apart, threshold), True)
            self.assertEqual(finest_grouping(census, "age", threshold), apart)
        self.assertIs(suits(census, "age", apart, 2), False)
        self.assertIs(suits(census, "age", [["child", "adult"], ["old"]], 2), False)
        self.assertIs(suits(census, "age", [["child"], ["adult", "old"]], 2), False)
        self.assertIs(suits(census, "age", [["child", "adult", "old"]], 2), True)
        self.assertEqual(finest_grouping(census, "age", 2), [["child", "adult", "old"]])
        self.assertEqual(finest_grouping(census, "age", 4), [["child", "adult", "old"]])
        self.assertIs(suits(census, "age", [["child", "adult", "old"]], 4), True)
        self.assertIs(suits(census, "age", [["child", "adult", "old"]], 5), False)
        self.assertIsNone(finest_grouping(census, "age", 5))
        # Nobody in the south works, and only two in the hill do not.
        self.assertEqual(finest_grouping(census, "work", 2), [["no"], ["yes"]])
        self.assertEqual(finest_grouping(census, "work", 3), [["no", "yes"]])

    def test_suits_against_records(self):
        generator = random.Random(244)
        seen = {True: 0, False: 0}
        for _ in range(30):
            plan = value_plan(5)
            census = value_census(plan, generator, (0, 0, 1, 4, 9))
            for grouping in run_groupings(plan.attributes()[1][1]):
                for threshold in (0, 1, 2, 5, 14):
                    found = suits(census, "age", grouping, threshold)
                    self.assertIs(found, tried_suits(census, "age", grouping, threshold))
                    seen[found] += 1
        self.assertGreater(min(seen.values()), 300)

    def test_finest_against_all_run_groupings(self):
        generator = random.Random(245)
        sizes = []
        for many in (2, 3, 5, 7, 8):
            for _ in range(8):
                plan = value_plan(many)
                census = value_census(plan, generator, generator.choice(((0, 0, 0, 3), (0, 1, 2), (2, 3, 9), (0, 0, 0, 0, 1, 7))))
                for threshold in (0, 1, 3, 6, 11):
                    suiting = [grouping for grouping in run_groupings(plan.attributes()[1][1])
                               if tried_suits(census, "age", grouping, threshold)]
                    found = finest_grouping(census, "age", threshold)
                    if not suiting:
                        self.assertIsNone(found)
                    else:
                        self.assertIn(found, suiting)
                        self.assertEqual(len(found), max(map(len, suiting)))
                        self.assertTrue(type(found) is list and all(type(group) is list for group in found))
                    sizes.append(len(found or []))
        self.assertGreater(len(set(sizes)), 6)

    def test_an_empty_census(self):
        census = Census(value_plan(4), [])
        self.assertEqual(finest_grouping(census, "age", 100), [["v0"], ["v1"], ["v2"], ["v3"]])
        self.assertIs(suits(census, "age", [["v0", "v1"], ["v2", "v3"]], 100), True)

    def test_unknown_attributes(self):
        census = samples.land_census()
        for name in ("people", "jobs", "zoo", "child", ""):
            with self.assertRaises(UnknownName) as caught:
                finest_grouping(census, name, 3)
            self.assertEqual(caught.exception.name, name)
            with self.assertRaises(UnknownName) as caught:
                suits(census, name, [["child", "adult", "old"]], 3)
            self.assertEqual(caught.exception.name, name)

    def test_arguments_and_results(self):
        census = samples.land_census()
        before = census.records()
        grouping = [["child"], ["adult", "old"]]
        suits(census, "age", grouping, 3)
        self.assertEqual(grouping, [["child"], ["adult", "old"]])
        found = finest_grouping(census, "age", 1)
        found[0].append("x")
        found.clear()
        self.assertEqual(finest_grouping(census, "age", 1), [["child"], ["adult"], ["old"]])
        self.assertEqual(census.records(), before)
        self.assertEqual(census.plan.attributes()[0], ("age", ["child", "adult", "old"]))

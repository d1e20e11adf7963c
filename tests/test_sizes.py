"""One plan of the sizes of point 2, with many hidden cells."""

import random
import unittest

import samples
from cellguard.census import Census, read_census, census_text, same_census
from cellguard.counting import cells_of, counts_fit, counts_of, totals_of
from cellguard.linking import arc_of, census_from, network_of
from cellguard.plan import Plan, plan_text, read_plan
from cellguard.publication import agrees, publish
from cellguard.ranges import cell_range, determined_cells, extreme_census, range_papers


def wide_areas():
    return [("root", None)] + [(f"r{k}", "root") for k in range(9)] + [(f"a{k}", f"r{k % 9}") for k in range(50)]


def deep_areas():
    areas = [("root", None)]
    last = "root"
    for k in range(29):
        areas += [(f"l{k}", last), (f"i{k}", last)]
        last = f"i{k}"
    return areas + [("end", last)]


def large_census(areas, generator):
    plan = Plan(areas, [("age", list("abcdef")), ("sex", ["f", "m"])] + [(f"x{k}", ["no", "yes"]) for k in range(10)],
                [("people", [("age", [[letter] for letter in "abcdef"]), ("sex", [["m"], ["f"]])])]
                + [(f"t{k}", [(f"x{k}", [["no"], ["yes"]])]) for k in range(7)])
    rest = ("no",) * 10
    records = []
    for leaf in plan.areas.leaves():
        for age in "abcdef":
            for sex in ("f", "m"):
                records.append(((leaf, (age, sex) + rest), generator.choice((0, 0, 1, 1, 2, 3, 7, 150, 4000))))
    census = Census(plan, records)
    leaf = plan.areas.leaves()[0]
    census.add((leaf, ("a", "f") + rest), 1000000 - census.people())
    return census


class SizesTest(unittest.TestCase):
    def check(self, areas, share, many):
        generator = random.Random(60)
        census = large_census(areas, generator)
        self.assertEqual(len(census.plan.areas.names()), 60)
        self.assertEqual(len(census.plan.classes("people")), 12)
        self.assertEqual(census.people(), 1000000)
        counts = counts_of(census, "people")
        hidden = [cell for cell in counts if generator.random() < share]
        publication = publish(census, {"people": hidden, "t0": []})
        determined = determined_cells(publication, "people")
        network = network_of(publication, "people")
        for cell in generator.sample(hidden, many):
            least, greatest = cell_range(publication, "people", cell)
            self.assertTrue(0 <= least <= counts[cell] <= greatest <= publication.totals()[cell[0]])
            self.assertIs(cell in determined, least == greatest)
            papers = range_papers(publication, "people", cell)
            self.assertEqual([paper[:2] for paper in papers], [(-1, least), (1, greatest)])
            for paper in papers:
                self.assertTrue(samples.is_right(network, arc_of(census.plan, "people", cell), paper))
            for way, count in ((-1, least), (1, greatest)):
                other = extreme_census(publication, "people", cell, way)
                self.assertIs(agrees(other, publication), True)
                self.assertEqual(counts_of(other, "people")[cell], count)

    def test_wide_tree(self):
        self.check(wide_areas(), 0.9, 12)
        self.check(wide_areas(), 0.4, 12)
        self.check(wide_areas(), 1, 12)

    def test_deep_tree(self):
        self.check(deep_areas(), 0.9, 12)
        self.check(deep_areas(), 0.4, 12)
        self.check(deep_areas(), 1, 12)

    def test_flat_tree(self):
        self.check([("root", None)] + [(f"a{k}", "root") for k in range(59)], 0.8, 12)

    def test_one_path(self):
        self.check([("a0", None)] + [(f"a{k}", f"a{k - 1}") for k in range(1, 60)], 0.7, 12)

    def test_texts_and_counts(self):
        census = large_census(wide_areas(), random.Random(61))
        plan = read_plan(plan_text(census.plan))
        self.assertEqual(plan_text(plan), plan_text(census.plan))
        self.assertTrue(same_census(read_census(census_text(census), plan), census))
        for table in plan.tables():
            self.assertTrue(counts_fit(plan, table, counts_of(census, table), totals_of(census)))

    def test_all_tables(self):
        census = large_census(wide_areas(), random.Random(62))
        publication = publish(census, {table: cells_of(census.plan, table) for table in census.plan.tables()})
        self.assertIs(agrees(census_from(publication, {}), publication), True)

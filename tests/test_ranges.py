import random
import unittest

import samples
from cellguard.census import Census, same_census
from cellguard.counting import cells_of, counts_of, totals_of
from cellguard.errors import InvalidPublication, UnknownName
from cellguard.linking import arc_of, network_of
from cellguard.plan import Plan
from cellguard.publication import Publication, agrees, publish
from cellguard.ranges import cell_range, determined_cells, extreme_census, range_papers

CALLS = [
    lambda publication, table: cell_range(publication, table, ("hill", 0)),
    determined_cells,
    lambda publication, table: extreme_census(publication, table, ("hill", 0), 1),
    lambda publication, table: extreme_census(publication, table, ("hill", 0), -1),
    lambda publication, table: range_papers(publication, table, ("hill", 0)),
]


class RangesTest(unittest.TestCase):
    def assert_shown(self, publication, table, cell, least, greatest):
        """The range, the censuses and the papers of a cell are all as the two numbers say."""
        self.assertEqual(cell_range(publication, table, cell), (least, greatest))
        self.assertIs(type(cell_range(publication, table, cell)), tuple)
        for way, count in ((-1, least), (1, greatest)):
            census = extreme_census(publication, table, cell, way)
            self.assertIsInstance(census, Census)
            self.assertIs(agrees(census, publication), True)
            self.assertEqual(counts_of(census, table)[cell], count)
        papers = range_papers(publication, table, cell)
        self.assertIs(type(papers), tuple)
        self.assertEqual([type(paper) for paper in papers], [tuple, tuple])
        self.assertEqual([paper[:2] for paper in papers], [(-1, least), (1, greatest)])
        network = network_of(publication, table)
        arc = arc_of(publication.plan, table, cell)
        for paper in papers:
            self.assertTrue(samples.is_right(network, arc, paper), paper)

    def test_by_hand(self):
        census = samples.land_census()
        hidden = [(area, number) for area in ("land", "north", "hill", "dale") for number in (0, 1)]
        publication = publish(census, {"jobs": hidden})
        # South is shown, so the classes of the land and the north go together.
        self.assert_shown(publication, "jobs", ("hill", 0), 0, 6)
        self.assert_shown(publication, "jobs", ("hill", 1), 0, 6)
        self.assert_shown(publication, "jobs", ("dale", 1), 0, 5)
        self.assert_shown(publication, "jobs", ("north", 0), 0, 11)
        self.assert_shown(publication, "jobs", ("land", 0), 0, 11)
        self.assert_shown(publication, "jobs", ("land", 1), 4, 15)
        self.assert_shown(publication, "jobs", ("south", 1), 4, 4)
        self.assertEqual(determined_cells(publication, "jobs"), [])
        # With the north shown, hill and dale have 9 together in the class 0.
        publication = publish(census, {"jobs": [("hill", 0), ("hill", 1), ("dale", 0), ("dale", 1)]})
        self.assert_shown(publication, "jobs", ("hill", 0), 4, 6)
        self.assert_shown(publication, "jobs", ("hill", 1), 0, 2)
        self.assert_shown(publication, "jobs", ("dale", 0), 3, 5)
        self.assert_shown(publication, "jobs", ("dale", 1), 0, 2)
        self.assert_shown(publication, "jobs", ("north", 0), 9, 9)
        self.assertEqual(determined_cells(publication, "jobs"), [])
        publication = publish(census, {"jobs": [("hill", 0), ("hill", 1)]})
        self.assert_shown(publication, "jobs", ("hill", 0), 4, 4)
        self.assertEqual(determined_cells(publication, "jobs"), [("hill", 0), ("hill", 1)])

    def test_determined_cells_are_hidden_ones(self):
        census = samples.land_census()
        publication = publish(census, {"people": [("land", 0), ("south", 3), ("dale", 0)], "jobs": []})
        self.assertEqual(determined_cells(publication, "people"), [("land", 0), ("south", 3), ("dale", 0)])
        self.assertEqual(determined_cells(publication, "jobs"), [])
        self.assertIs(type(determined_cells(publication, "jobs")), list)

    def test_determined_by_the_bounds_alone(self):
        # Both cells of the leaf y must be 0, as nobody lives there.
        plan = samples.pair_plan()
        census = Census(plan, [(("x", ("a", "a")), 2), (("z", ("b", "a")), 3)])
        publication = publish(census, {"first": cells_of(plan, "first")})
        self.assertEqual(determined_cells(publication, "first"), [("y", 0), ("y", 1)])

    def test_shown_cells(self):
        census = samples.land_census()
        everything = cells_of(census.plan, "people")
        counts = counts_of(census, "people")
        for cell in everything:
            publication = publish(census, {"people": [other for other in everything if other != cell]})
            self.assert_shown(publication, "people", cell, counts[cell], counts[cell])

    def test_against_all_censuses(self):
        generator = random.Random(21)
        plan = samples.pair_plan()
        for _ in range(25):
            leaf_totals = {leaf: generator.randrange(3) for leaf in "xyz"}
            censuses = list(samples.all_censuses(plan, leaf_totals))
            patterns = {table: [cell for cell in cells_of(plan, table) if generator.random() < 0.75]
                        for table in generator.choice((["first"], ["first", "second"]))}
            publication = publish(generator.choice(censuses), patterns)
            agreeing = [census for census in censuses if agrees(census, publication)]
            for table in publication.tables():
                all_counts = [counts_of(census, table) for census in agreeing]
                determined = []
                for cell in cells_of(plan, table):
                    values = {counts[cell] for counts in all_counts}
                    self.assertEqual(sorted(values), list(range(min(values), max(values) + 1)))
                    self.assert_shown(publication, table, cell, min(values), max(values))
                    if cell in patterns[table] and len(values) == 1:
                        determined.append(cell)
                self.assertEqual(determined_cells(publication, table), determined)

    def test_larger_classes_against_all_counts(self):
        generator = random.Random(22)
        plan = Plan([("top", None), ("left", "top"), ("x", "left"), ("y", "left"), ("z", "top")],
                    [("one", ["a", "b", "c"])], [("t", [("one", [["b"], ["c"], ["a"]])])])
        for _ in range(15):
            leaf_totals = {leaf: generator.randrange(4) for leaf in "xyz"}
            censuses = list(samples.all_censuses(plan, leaf_totals))
            pattern = [cell for cell in cells_of(plan, "t") if generator.random() < 0.7]
            publication = publish(generator.choice(censuses), {"t": pattern})
            all_counts = [counts_of(census, "t") for census in censuses if agrees(census, publication)]
            for cell in cells_of(plan, "t"):
                values = [counts[cell] for counts in all_counts]
                self.assert_shown(publication, "t", cell, min(values), max(values))

    def test_other_tables_do_not_narrow_a_range(self):
        census = samples.land_census()
        everything = cells_of(census.plan, "people")
        alone = publish(census, {"people": everything})
        for pattern in ([], cells_of(census.plan, "jobs")):
            both = publish(census, {"people": everything, "jobs": pattern})
            for cell in everything:
                least, greatest = cell_range(alone, "people", cell)
                self.assert_shown(both, "people", cell, least, greatest)

    def test_unknown_tables_come_first(self):
        census = samples.land_census()
        impossible = Publication(census.plan, {**totals_of(census), "land": 99}, {"people": counts_of(census, "people")})
        for publication in (publish(census, {"people": []}), publish(census, {}), impossible):
            for call in CALLS:
                with self.assertRaises(UnknownName) as caught:
                    call(publication, "jobs")
                self.assertEqual(caught.exception.name, "jobs")
                with self.assertRaises(UnknownName):
                    call(publication, "age")

    def test_publications_that_are_not_possible(self):
        census = samples.land_census()
        people = counts_of(census, "people")
        jobs = counts_of(census, "jobs")
        totals = totals_of(census)
        # In the second one, only the other table is impossible; in the last one, only the totals.
        for broken in (Publication(census.plan, totals, {"people": {**people, ("dale", 0): 1}}),
                       Publication(census.plan, totals, {"people": people, "jobs": {**jobs, ("dale", 0): 1}}),
                       Publication(census.plan, {**totals, "north": 12}, {"people": dict.fromkeys(people)})):
            for call in CALLS:
                with self.assertRaises(InvalidPublication):
                    call(broken, "people")

    def test_nothing_is_modified_and_results_are_new(self):
        census = samples.land_census()
        everything = cells_of(census.plan, "people")
        publication = publish(census, {"people": everything})
        before = range_papers(publication, "people", ("land", 0))
        self.assertTrue(same_census(extreme_census(publication, "people", ("land", 0), 1),
                                    extreme_census(publication, "people", ("land", 0), 1)))
        for paper in range_papers(publication, "people", ("land", 0)):
            if paper[2] is not None:
                paper[2].clear()
        determined_cells(publication, "people").append("x")
        self.assertEqual(range_papers(publication, "people", ("land", 0)), before)
        self.assertEqual(determined_cells(publication, "people"), [])
        self.assertEqual(publication.hidden("people"), everything)
        self.assertEqual(publication.totals(), totals_of(census))

import random
import unittest

import samples
from cellguard.census import Census
from cellguard.counting import cells_of, counts_of
from cellguard.errors import UnknownName
from cellguard.linking import arc_of, network_of
from cellguard.papers import check_paper
from cellguard.publication import Publication, agrees, publish
from cellguard.ranges import cell_range, range_papers


def jobs_publication():
    """Hill and dale are hidden. Nodes: south 0, hill 1, dale 2, land 3 and 4, north 5 and 6, end 7."""
    return publish(samples.land_census(), {"jobs": [("hill", 0), ("hill", 1), ("dale", 0), ("dale", 1)]})


class CheckPaperTest(unittest.TestCase):
    def check(self, cell, paper, publication=None):
        found = check_paper(publication or jobs_publication(), "jobs", cell, paper)
        self.assertIn(found, (True, False))
        self.assertIs(type(found), bool)
        return found

    def test_bounds_by_hand(self):
        # Into the node 5 go hill and dale, and 9 leave it: hill is at most 9, with dale at least 4.
        self.assertTrue(self.check(("hill", 0), (1, 9, [5])))
        self.assertTrue(self.check(("hill", 0), (1, 10, [5])))
        self.assertFalse(self.check(("hill", 0), (1, 8, [5])))
        # Out of 1 and 6 go the cells (hill, 0) and 2 from the north; 6 enter from the end, and at least 0 from dale.
        self.assertTrue(self.check(("hill", 0), (-1, 4, [1, 6])))
        self.assertTrue(self.check(("hill", 0), (-1, 3, [1, 6])))
        self.assertTrue(self.check(("hill", 0), (-1, -3, [1, 6])))
        self.assertFalse(self.check(("hill", 0), (-1, 5, [1, 6])))
        # A looser set shows less.
        self.assertTrue(self.check(("hill", 0), (-1, 0, [1])))
        self.assertFalse(self.check(("hill", 0), (-1, 1, [1])))

    def test_bounds_of_the_arc(self):
        self.assertTrue(self.check(("hill", 0), (1, 6, None)))
        self.assertTrue(self.check(("hill", 0), (1, 7, None)))
        self.assertFalse(self.check(("hill", 0), (1, 5, None)))
        self.assertTrue(self.check(("hill", 0), (-1, 0, None)))
        self.assertTrue(self.check(("hill", 0), (-1, -1, None)))
        self.assertFalse(self.check(("hill", 0), (-1, 1, None)))
        # A shown cell has both bounds by itself.
        self.assertTrue(self.check(("north", 0), (1, 9, None)))
        self.assertTrue(self.check(("north", 0), (-1, 9, None)))
        self.assertFalse(self.check(("north", 0), (1, 8, None)))
        self.assertFalse(self.check(("north", 0), (-1, 10, None)))

    def test_arcs_that_do_not_cross_as_they_must(self):
        self.assertFalse(self.check(("hill", 0), (1, 99, [1])))
        self.assertFalse(self.check(("hill", 0), (-1, -99, [5])))
        self.assertFalse(self.check(("hill", 0), (1, 99, [1, 5])))
        self.assertFalse(self.check(("hill", 0), (-1, -99, [1, 5])))
        self.assertFalse(self.check(("hill", 0), (1, 99, [])))
        self.assertFalse(self.check(("hill", 0), (1, 99, [2, 7])))
        self.assertFalse(self.check(("hill", 0), (1, 99, list(range(8)))))

    def test_members_of_another_form(self):
        self.assertTrue(self.check(("hill", 0), (1, 99, [3, 5])))
        for members in ([5, 3], [5, 5], [3, 5, 5], [-1, 5], [5, 8], [5, 99], (3, 5), {3: 5}, "5", 5, True, ["5"], [5, None],
                        [True, 5], [[5]]):
            self.assertFalse(self.check(("hill", 0), (1, 99, members)), members)

    def test_papers_of_another_form(self):
        for paper in (None, 1, "paper", [1, 99, [5]], (), (1,), (1, 99), (1, 99, [5], 1), (0, 99, [5]), (2, 99, [5]),
                      (-2, 99, [5]), (None, 99, [5]), ("1", 99, [5]), (True, 99, [5]), (1, None, [5]), (1, "99", [5]),
                      (1, True, None), ([1], 99, [5]), (1, [99], [5])):
            self.assertFalse(self.check(("hill", 0), paper), paper)

    def test_unknown_tables(self):
        for table in ("people", "age"):
            with self.assertRaises(UnknownName) as caught:
                check_paper(jobs_publication(), table, ("hill", 0), (1, 99, None))
            self.assertEqual(caught.exception.name, table)
        with self.assertRaises(UnknownName):
            check_paper(jobs_publication(), "people", ("hill", 0), None)

    def test_publications_that_are_not_possible(self):
        census = samples.land_census()
        broken = Publication(census.plan, {**jobs_publication().totals(), "land": 3}, {"jobs": jobs_publication().cells("jobs")})
        self.assertTrue(self.check(("hill", 0), (1, 9, [5]), broken))
        self.assertFalse(self.check(("hill", 0), (1, 8, [5]), broken))

    def test_papers_of_all_ranges(self):
        census = samples.land_census()
        for pattern in ([], cells_of(census.plan, "people"), cells_of(census.plan, "people")[::2]):
            publication = publish(census, {"people": pattern})
            for cell in cells_of(census.plan, "people"):
                least, greatest = cell_range(publication, "people", cell)
                lower, upper = range_papers(publication, "people", cell)
                self.assertIs(check_paper(publication, "people", cell, lower), True)
                self.assertIs(check_paper(publication, "people", cell, upper), True)
                self.assertIs(check_paper(publication, "people", cell, (1, greatest + 1, upper[2])), True)
                self.assertIs(check_paper(publication, "people", cell, (-1, least - 1, lower[2])), True)
                self.assertIs(check_paper(publication, "people", cell, (1, greatest - 1, upper[2])), False)
                self.assertIs(check_paper(publication, "people", cell, (-1, least + 1, lower[2])), False)

    def test_right_papers_hold_for_all_censuses(self):
        generator = random.Random(31)
        plan = samples.pair_plan()
        right = 0
        for _ in range(12):
            leaf_totals = {leaf: generator.randrange(3) for leaf in "xyz"}
            censuses = list(samples.all_censuses(plan, leaf_totals))
            pattern = [cell for cell in cells_of(plan, "first") if generator.random() < 0.75]
            publication = publish(generator.choice(censuses), {"first": pattern})
            agreeing = [counts_of(census, "first") for census in censuses if agrees(census, publication)]
            network = network_of(publication, "first")
            for _ in range(300):
                cell = generator.choice(cells_of(plan, "first"))
                members = [node for node in range(network.nodes) if generator.random() < 0.5]
                paper = (generator.choice((-1, 1)), generator.randrange(-1, 5), generator.choice((members, members, None)))
                found = self.checked(publication, cell, paper)
                self.assertEqual(found, samples.is_right(network, arc_of(plan, "first", cell), paper))
                if found:
                    right += 1
                    for counts in agreeing:
                        self.assertLessEqual(paper[0] * counts[cell], paper[0] * paper[1])
        self.assertGreater(right, 200)

    def checked(self, publication, cell, paper):
        return check_paper(publication, "first", cell, paper)

    def test_nothing_is_modified(self):
        members = [3, 5]
        publication = jobs_publication()
        before = publication.cells("jobs")
        self.check(("hill", 0), (1, 99, members), publication)
        self.assertEqual(members, [3, 5])
        self.assertEqual(publication.cells("jobs"), before)

    def test_one_area(self):
        plan = samples.Plan([("land", None)], [("one", ["x", "y"])], [("t", [("one", [["x"], ["y"]])])])
        publication = publish(Census(plan, [(("land", ("x",)), 3)]), {"t": [("land", 0), ("land", 1)]})
        # Both cells lead from the leaf to the end.
        self.assertIs(check_paper(publication, "t", ("land", 0), (1, 3, [1])), True)
        self.assertIs(check_paper(publication, "t", ("land", 0), (1, 2, [1])), False)
        self.assertIs(check_paper(publication, "t", ("land", 0), (-1, 0, [0])), True)
        self.assertIs(check_paper(publication, "t", ("land", 0), (-1, 1, [0])), False)

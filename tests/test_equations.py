import random
import unittest

import samples
from cellguard.counting import cells_of, counts_of, totals_of
from cellguard.equations import equation_of, equation_text, linear_cells
from cellguard.errors import InvalidPublication, UnknownName
from cellguard.linking import network_of
from cellguard.publication import Publication, agrees, publish
from cellguard.ranges import cell_range, determined_cells

SQUARE = [("hill", 0), ("hill", 1), ("dale", 0), ("dale", 1)]


def tried_equation(publication, table, members):
    """The equation of point 57, straight from the arcs."""
    cells = publication.cells(table)
    arcs = network_of(publication, table).arcs()
    terms, constant = {}, 0
    for number, (tail, head, least, most) in enumerate(arcs):
        side = (head in members) - (tail in members)
        cell = list(cells)[number] if number < len(cells) else None
        if side != 0 and cell is not None and cells[cell] is None:
            terms[cell] = side
        elif side != 0:
            constant -= side * least
    return terms, constant


def has_ring(publication, table, cell):
    """Whether a hidden cell lies on a ring: its ends are joined by other hidden cells, found by growing sets."""
    cells = list(publication.cells(table))
    arcs = network_of(publication, table).arcs()
    tail, head = arcs[cells.index(cell)][:2]
    joined = {tail}
    for _ in cells:
        for other in publication.hidden(table):
            ends = set(arcs[cells.index(other)][:2])
            if other != cell and ends & joined:
                joined |= ends
    return head in joined


class EquationTest(unittest.TestCase):
    def setUp(self):
        # Nodes: the leaves south, hill, dale; land and north with two classes each; the end.
        self.publication = publish(samples.land_census(), {"jobs": SQUARE})

    def test_by_hand(self):
        expected = {
            (): ({}, 0),
            (0,): ({}, 0),
            (1,): ({("hill", 0): -1, ("hill", 1): -1}, -6),
            (2,): ({("dale", 0): -1, ("dale", 1): -1}, -5),
            (5,): ({("hill", 0): 1, ("dale", 0): 1}, 9),
            (6,): ({("hill", 1): 1, ("dale", 1): 1}, 2),
            (1, 5): ({("hill", 1): -1, ("dale", 0): 1}, 9 - 6),
            (1, 2, 5, 6): ({}, 0),
            (3, 4): ({}, 0),
            (7,): ({}, 0),
        }
        for members, equation in expected.items():
            found = equation_of(self.publication, "jobs", list(members))
            self.assertIs(type(found), tuple)
            self.assertEqual(found, equation)
            self.assertIs(type(found[0]), dict)
            self.assertEqual(equation_of(self.publication, "jobs", list(members)[::-1]), equation)
        self.assertEqual(equation_of(self.publication, "jobs", list(range(8))), ({}, 0))

    def test_against_sums_over_the_arcs(self):
        generator = random.Random(261)
        plan = samples.triple_plan()
        for _ in range(40):
            census = samples.random_census(plan, generator, (0, 1, 2, 5))
            counts = counts_of(census, "t")
            publication = publish(census, {"t": [cell for cell in counts if generator.random() < 0.6]})
            nodes = network_of(publication, "t").nodes
            for many in (0, 1, 2, 4, nodes):
                members = generator.sample(range(nodes), many)
                terms, constant = equation_of(publication, "t", members)
                self.assertEqual((terms, constant), tried_equation(publication, "t", members))
                self.assertEqual(sum(counts[cell] * sign for cell, sign in terms.items()), constant)

    def test_every_census_that_agrees_satisfies_it(self):
        generator = random.Random(262)
        plan = samples.pair_plan()
        censuses = list(samples.all_censuses(plan, {"x": 2, "y": 1, "z": 1}))
        for _ in range(8):
            publication = publish(generator.choice(censuses), {"first": [cell for cell in cells_of(plan, "first")
                                                                         if generator.random() < 0.8]})
            agreeing = [counts_of(census, "first") for census in censuses if agrees(census, publication)]
            nodes = network_of(publication, "first").nodes
            for _ in range(20):
                members = [node for node in range(nodes) if generator.random() < 0.5]
                terms, constant = equation_of(publication, "first", members)
                for counts in agreeing:
                    self.assertEqual(sum(counts[cell] * sign for cell, sign in terms.items()), constant)

    def test_text(self):
        for members, text in (([], "0 = 0"), ([1], "- hill/0 - hill/1 = -6"), ([5], "+ hill/0 + dale/0 = 9"),
                              ([1, 5], "- hill/1 + dale/0 = 3"), ([5, 1], "- hill/1 + dale/0 = 3"), ([0], "0 = 0"),
                              ([2, 5], "+ hill/0 - dale/1 = 4")):
            self.assertEqual(equation_text(self.publication, "jobs", members), text)
        # A term that stands alone has its sign, too, and the order is that of the cells.
        alone = publish(samples.land_census(), {"jobs": [("land", 1), ("north", 1)]})
        self.assertEqual(equation_text(alone, "jobs", [6]), "- north/1 = -2")
        self.assertEqual(equation_text(alone, "jobs", [4]), "- land/1 + north/1 = -4")
        self.assertEqual(equation_text(alone, "jobs", [7]), "+ land/1 = 6")
        # If the published numbers do not fit, a constant without terms need not be 0.
        broken = Publication(alone.plan, {**alone.totals(), "south": 5}, {"jobs": self.publication.cells("jobs")})
        self.assertEqual(equation_text(broken, "jobs", [0]), "0 = -1")

    def test_unknown_names(self):
        for call in (equation_of, equation_text):
            for table in ("people", "zoo"):
                with self.assertRaises(UnknownName) as caught:
                    call(self.publication, table, [0])
                self.assertEqual(caught.exception.name, table)
        for table in ("people", "zoo"):
            with self.assertRaises(UnknownName) as caught:
                linear_cells(self.publication, table)
            self.assertEqual(caught.exception.name, table)

    def test_arguments_and_results(self):
        members = [5, 1]
        equation_of(self.publication, "jobs", members)[0].clear()
        self.assertEqual(members, [5, 1])
        self.assertEqual(len(equation_of(self.publication, "jobs", members)[0]), 2)


class LinearCellsTest(unittest.TestCase):
    def assert_linear(self, publication, table, counts):
        cells = publication.hidden(table)
        found = linear_cells(publication, table)
        self.assertIs(type(found), list)
        self.assertEqual([entry[0] for entry in found], [cell for cell in cells if not has_ring(publication, table, cell)])
        nodes = network_of(publication, table).nodes
        for cell, count, members in found:
            self.assertIs(type(members), list)
            self.assertEqual(members, sorted(set(members) & set(range(nodes))))
            terms, constant = equation_of(publication, table, members)
            self.assertEqual(list(terms), [cell])
            self.assertEqual((count, terms[cell] * constant), (counts[cell], counts[cell]))
            self.assertEqual(cell_range(publication, table, cell), (count, count))
        self.assertLessEqual({entry[0] for entry in found}, set(determined_cells(publication, table)))
        return len(found)

    def test_by_hand(self):
        census = samples.land_census()
        publication = publish(census, {"jobs": [("land", 0), ("north", 0), ("south", 1)] + SQUARE})
        self.assertEqual([entry[:2] for entry in linear_cells(publication, "jobs")],
                         [(("land", 0), 9), (("north", 0), 9), (("south", 1), 4)])
        self.assert_linear(publication, "jobs", counts_of(census, "jobs"))
        self.assertEqual(linear_cells(publish(census, {"jobs": SQUARE}), "jobs"), [])
        self.assertEqual(linear_cells(publish(census, {"jobs": []}), "jobs"), [])
        self.assertEqual(linear_cells(publish(census, {"jobs": cells_of(census.plan, "jobs")}), "jobs"), [])

    def test_two_cells_between_the_same_nodes(self):
        # In a single area all cells lead from its node to the end.
        plan = samples.Plan([("top", None)], [("one", ["a", "b", "c"])], [("t", [("one", [["a"], ["b"], ["c"]])])])
        census = samples.census_of_rows(plan, {"top": [4, 2, 0]})
        self.assertEqual(linear_cells(publish(census, {"t": [("top", 0), ("top", 1)]}), "t"), [])
        self.assertEqual([entry[:2] for entry in linear_cells(publish(census, {"t": [("top", 1)]}), "t")], [(("top", 1), 2)])

    def test_determined_but_not_linearly(self):
        # Nobody of the class 1 is in the square, so that nothing can move, although it is a ring.
        census = samples.census_of_rows(samples.flat_plan(2, 2), {"l0": [3, 0], "l1": [4, 0]})
        publication = publish(census, {"t": [("l0", 0), ("l0", 1), ("l1", 0), ("l1", 1)]})
        self.assertEqual(determined_cells(publication, "t"), publication.hidden("t"))
        self.assertEqual(linear_cells(publication, "t"), [])

    def test_against_rings(self):
        generator = random.Random(263)
        found = 0
        for plan in (samples.triple_plan(), samples.flat_plan(4, 2), samples.flat_plan(3, 3)):
            for share in (0.2, 0.4, 0.5, 0.6, 0.8):
                for _ in range(6):
                    census = samples.random_census(plan, generator, (0, 1, 2, 5))
                    counts = counts_of(census, "t")
                    publication = publish(census, {"t": [cell for cell in counts if generator.random() < share]})
                    found += self.assert_linear(publication, "t", counts)
        self.assertGreater(found, 100)

    def test_not_possible(self):
        census = samples.land_census()
        totals = totals_of(census)
        jobs = counts_of(census, "jobs")
        for broken in (Publication(census.plan, {**totals, "land": 14}, {"jobs": dict.fromkeys(jobs)}),
                       Publication(census.plan, totals, {"jobs": {**jobs, ("hill", 0): 7, ("hill", 1): None}})):
            with self.assertRaises(InvalidPublication):
                linear_cells(broken, "jobs")
            with self.assertRaises(UnknownName):
                linear_cells(broken, "people")

    def test_results_are_new(self):
        publication = publish(samples.land_census(), {"jobs": [("land", 0)]})
        found = linear_cells(publication, "jobs")
        found[0][2].clear()
        found.clear()
        self.assertEqual([entry[:2] for entry in linear_cells(publication, "jobs")], [(("land", 0), 9)])
        self.assertNotEqual(linear_cells(publication, "jobs")[0][2], [])

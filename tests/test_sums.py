import random
import unittest

import samples
from cellguard.census import Census
from cellguard.counting import cells_of, counts_of, totals_of
from cellguard.errors import InvalidPublication, UnknownName
from cellguard.linking import arc_of, network_of
from cellguard.publication import Publication, agrees, publish
from cellguard.ranges import cell_range
from cellguard.sums import check_sum_paper, sum_census, sum_papers, sum_range


def value_of(counts, weights):
    return sum(counts[cell] * weight for cell, weight in weights.items())


class SumsTest(unittest.TestCase):
    def assert_shown(self, publication, table, weights, least, greatest):
        """The range, the censuses and the papers of a sum are all as the two numbers say."""
        before = dict(weights)
        self.assertEqual(sum_range(publication, table, weights), (least, greatest))
        self.assertIs(type(sum_range(publication, table, weights)), tuple)
        for way, value in ((-1, least), (1, greatest)):
            census = sum_census(publication, table, weights, way)
            self.assertIsInstance(census, Census)
            self.assertIs(agrees(census, publication), True)
            self.assertEqual(value_of(counts_of(census, table), weights), value)
        papers = sum_papers(publication, table, weights)
        self.assertIs(type(papers), tuple)
        self.assertEqual([type(paper) for paper in papers], [tuple, tuple])
        self.assertEqual([paper[:2] for paper in papers], [(-1, least), (1, greatest)])
        for way, bound, potentials in papers:
            self.assertIs(type(potentials), list)
            self.assertIs(check_sum_paper(publication, table, weights, (way, bound, potentials)), True)
            self.assertIs(check_sum_paper(publication, table, weights, (way, bound + way, potentials)), True)
            self.assertIs(check_sum_paper(publication, table, weights, (way, bound - way, potentials)), False)
        self.assertEqual(weights, before)

    def test_by_hand(self):
        census = samples.land_census()
        publication = publish(census, {"jobs": [("hill", 0), ("hill", 1), ("dale", 0), ("dale", 1)]})
        # North has 9 and 2 in the classes, hill has 6 people and dale 5; hill has 4 to 6 in the class 0.
        self.assert_shown(publication, "jobs", {("hill", 0): 1}, 4, 6)
        self.assert_shown(publication, "jobs", {("hill", 0): -1}, -6, -4)
        self.assert_shown(publication, "jobs", {("hill", 0): 7}, 28, 42)
        self.assert_shown(publication, "jobs", {("hill", 0): 1, ("dale", 0): 1}, 9, 9)
        self.assert_shown(publication, "jobs", {("hill", 0): 1, ("dale", 0): -1}, -1, 3)
        self.assert_shown(publication, "jobs", {("hill", 0): 1, ("dale", 1): 1}, 4, 8)
        self.assert_shown(publication, "jobs", {("hill", 0): 1, ("hill", 1): 1}, 6, 6)
        self.assert_shown(publication, "jobs", {("south", 0): 3, ("south", 1): -2}, -8, -8)
        self.assert_shown(publication, "jobs", {("north", 0): 2, ("hill", 1): 10}, 18, 38)

    def test_the_empty_sum(self):
        census = samples.land_census()
        for pattern in ([], cells_of(census.plan, "people")):
            self.assert_shown(publish(census, {"people": pattern}), "people", {}, 0, 0)

    def test_all_cells_of_an_area(self):
        census = samples.land_census()
        publication = publish(census, {"people": cells_of(census.plan, "people"), "jobs": []})
        totals = totals_of(census)
        for area in census.plan.areas.names():
            weights = {(area, number): 3 for number in range(4)}
            self.assert_shown(publication, "people", weights, 3 * totals[area], 3 * totals[area])

    def test_one_cell_has_the_range_of_the_cell(self):
        census = samples.land_census()
        publication = publish(census, {"people": cells_of(census.plan, "people")[1::2]})
        for cell in cells_of(census.plan, "people"):
            self.assertEqual(sum_range(publication, "people", {cell: 1}), cell_range(publication, "people", cell))

    def test_against_all_censuses(self):
        generator = random.Random(51)
        plan = samples.pair_plan()
        for _ in range(12):
            leaf_totals = {leaf: generator.randrange(3) for leaf in "xyz"}
            censuses = list(samples.all_censuses(plan, leaf_totals))
            patterns = {table: [cell for cell in cells_of(plan, table) if generator.random() < 0.8]
                        for table in generator.choice((["first"], ["first", "second"]))}
            publication = publish(generator.choice(censuses), patterns)
            agreeing = [census for census in censuses if agrees(census, publication)]
            for table in publication.tables():
                all_counts = [counts_of(census, table) for census in agreeing]
                for most in (1, 5, 100):
                    cells = generator.sample(cells_of(plan, table), generator.randrange(1, 9))
                    weights = {cell: generator.choice((-1, 1)) * generator.randint(1, most) for cell in cells}
                    values = [value_of(counts, weights) for counts in all_counts]
                    self.assert_shown(publication, table, weights, min(values), max(values))

    def test_three_classes_against_all_counts(self):
        generator = random.Random(52)
        plan = samples.triple_plan()
        for _ in range(15):
            census = samples.random_census(plan, generator, (0, 0, 1, 2))
            counts = counts_of(census, "t")
            tables = samples.all_tables(plan, "t", totals_of(census))
            pattern = [cell for cell in counts if generator.random() < 0.8]
            agreeing = samples.agreeing_tables(tables, counts, pattern)
            for _ in range(4):
                weights = {cell: generator.choice((-4, -1, 1, 2)) for cell in counts if generator.random() < 0.6}
                values = [value_of(other, weights) for other in agreeing]
                self.assert_shown(publish(census, {"t": pattern}), "t", weights, min(values), max(values))

    def test_unknown_tables_come_first(self):
        census = samples.land_census()
        impossible = Publication(census.plan, {**totals_of(census), "land": 99}, {"people": counts_of(census, "people")})
        for publication in (publish(census, {"people": []}), publish(census, {}), impossible):
            for table in ("jobs", "age"):
                for call in (lambda: sum_range(publication, table, {("hill", 0): 1}),
                             lambda: sum_census(publication, table, {("hill", 0): 1}, 1),
                             lambda: sum_papers(publication, table, {("hill", 0): 1}),
                             lambda: check_sum_paper(publication, table, {("hill", 0): 1}, (1, 99, [0] * 8)),
                             lambda: check_sum_paper(publication, table, {}, None)):
                    with self.assertRaises(UnknownName) as caught:
                        call()
                    self.assertEqual(caught.exception.name, table)

    def test_publications_that_are_not_possible(self):
        census = samples.land_census()
        people = counts_of(census, "people")
        jobs = counts_of(census, "jobs")
        totals = totals_of(census)
        for broken in (Publication(census.plan, totals, {"people": {**people, ("dale", 0): 1}}),
                       Publication(census.plan, totals, {"people": people, "jobs": {**jobs, ("dale", 0): 1}}),
                       Publication(census.plan, {**totals, "north": 12}, {"people": dict.fromkeys(people)})):
            for weights in ({}, {("hill", 0): 1}):
                for call in (sum_range, sum_papers, lambda *told: sum_census(*told, 1), lambda *told: sum_census(*told, -1)):
                    with self.assertRaises(InvalidPublication):
                        call(broken, "people", weights)


class CheckSumPaperTest(unittest.TestCase):
    def setUp(self):
        self.publication = publish(samples.land_census(), {"jobs": [("hill", 0), ("hill", 1), ("dale", 0), ("dale", 1)]})
        self.weights = {("hill", 0): 1}

    def check(self, paper):
        found = check_sum_paper(self.publication, "jobs", self.weights, paper)
        self.assertIs(type(found), bool)
        return found

    def test_without_potentials_the_arcs_bound_the_sum(self):
        self.assertTrue(self.check((1, 6, [0] * 8)))
        self.assertTrue(self.check((1, 7, [0] * 8)))
        self.assertFalse(self.check((1, 5, [0] * 8)))
        self.assertTrue(self.check((-1, 0, [0] * 8)))
        self.assertTrue(self.check((-1, -5, [0] * 8)))
        self.assertFalse(self.check((-1, 1, [0] * 8)))

    def test_potentials_by_hand(self):
        # Hill is at least 4, as the set of the nodes 1 and 6 shows it: the price of its arc becomes 0.
        potentials = [0, -1, 0, 0, 0, 0, -1, 0]
        self.assertTrue(self.check((-1, 4, potentials)))
        self.assertTrue(self.check((-1, 4, [potential + 9 for potential in potentials])))
        self.assertFalse(self.check((-1, 5, potentials)))
        self.assertFalse(self.check((1, 3, potentials)))

    def test_other_forms(self):
        self.assertTrue(self.check((1, 99, [0] * 8)))
        for potentials in ([0] * 7, [0] * 9, [], (0,) * 8, None, 0, "00000000", [0] * 7 + ["0"], [0] * 7 + [None],
                           [0] * 7 + [False], [0] * 7 + [[0]], {node: 0 for node in range(8)}):
            self.assertFalse(self.check((1, 99, potentials)), potentials)
        for paper in (None, 5, "paper", [1, 99, [0] * 8], (), (1, 99), (1, 99, [0] * 8, 0), (0, 99, [0] * 8),
                      (2, 99, [0] * 8), (None, 99, [0] * 8), (True, 99, [0] * 8), (1, None, [0] * 8), (1, "9", [0] * 8),
                      (1, True, [0] * 8), ([1], 99, [0] * 8)):
            self.assertFalse(self.check(paper), paper)

    def test_right_papers_hold_for_all_counts(self):
        generator = random.Random(53)
        plan = samples.triple_plan()
        right = 0
        for _ in range(10):
            census = samples.random_census(plan, generator, (0, 1, 1, 2))
            counts = counts_of(census, "t")
            pattern = [cell for cell in counts if generator.random() < 0.8]
            publication = publish(census, {"t": pattern})
            agreeing = samples.agreeing_tables(samples.all_tables(plan, "t", totals_of(census)), counts, pattern)
            nodes = network_of(publication, "t").nodes
            for _ in range(60):
                weights = {cell: generator.choice((-2, -1, 1, 3)) for cell in generator.sample(list(counts), 3)}
                way = generator.choice((-1, 1))
                potentials = [generator.choice((0, 0, 1, -1)) for _ in range(nodes)]
                looser = generator.choice((-1, 0, 1))
                paper = (way, self.by_hand(publication, weights, way, potentials) + way * looser, potentials)
                found = check_sum_paper(publication, "t", weights, paper)
                self.assertEqual(found, looser >= 0)
                if found:
                    right += 1
                    for other in agreeing:
                        self.assertLessEqual(paper[0] * value_of(other, weights), paper[0] * paper[1])
        self.assertGreater(right, 50)

    def by_hand(self, publication, weights, way, potentials):
        at = {arc_of(publication.plan, "t", cell): weight for cell, weight in weights.items()}
        shown = 0
        for number, (tail, head, least, most) in enumerate(network_of(publication, "t").arcs()):
            price = at.get(number, 0) + potentials[tail] - potentials[head]
            shown += (max if way == 1 else min)(price * least, price * most)
        return shown

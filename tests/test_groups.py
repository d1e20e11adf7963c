import random
import unittest

import samples
from cellguard.census import Census
from cellguard.counting import cells_of, counts_of, totals_of
from cellguard.errors import InvalidPublication, InvalidRecord, UnknownName
from cellguard.groups import check_group_paper, group_census, group_network, group_papers, group_range
from cellguard.linking import network_of
from cellguard.network import Network
from cellguard.publication import Publication, agrees, publish
from cellguard.ranges import cell_range

HILL = ("hill", ("adult", "m", "yes"))
DALE = ("dale", ("old", "f", "yes"))
SOUTH = ("south", ("old", "f", "no"))
SQUARE = [("hill", 0), ("hill", 1), ("dale", 0), ("dale", 1)]


def times_in(group, record):
    return sum(other == record for other in group)


class GroupNetworkTest(unittest.TestCase):
    def test_written_out_by_hand(self):
        # As without a group, but two adults who work in the hill are known, and one in the south who does not.
        publication = publish(samples.land_census(), {"jobs": [("land", 1), ("north", 0), ("south", 1), ("hill", 0), ("hill", 1)]})
        network = group_network(publication, "jobs", [HILL, SOUTH, HILL])
        self.assertIsInstance(network, Network)
        self.assertEqual(network.nodes, 8)
        self.assertEqual(network.arcs(), [
            (3, 7, 9, 9), (4, 7, 1, 15),
            (5, 3, 2, 11), (6, 4, 2, 2),
            (0, 3, 0, 0), (0, 4, 1, 4),
            (1, 5, 2, 6), (1, 6, 0, 6),
            (2, 5, 5, 5), (2, 6, 0, 0),
            (7, 0, 4, 4), (7, 1, 6, 6), (7, 2, 5, 5),
        ])

    def test_the_empty_group(self):
        publication = publish(samples.land_census(), {"jobs": SQUARE})
        self.assertEqual(group_network(publication, "jobs", []).arcs(), network_of(publication, "jobs").arcs())

    def test_errors_in_their_order(self):
        publication = publish(samples.land_census(), {"jobs": SQUARE})
        none = ("moon", ("adult", "m", "yes"))
        for table in ("people", "age"):
            for group in ([], [none], [HILL] * 9):
                with self.assertRaises(UnknownName) as caught:
                    group_network(publication, table, group)
                self.assertEqual(caught.exception.name, table)
        for record in (none, ("north", ("adult", "m", "yes")), ("land", ("adult", "m", "yes")), ("hill", ("adult", "m")),
                       ("hill", ("adult", "m", "yes", "yes")), ("hill", ("yes", "m", "adult")), ("hill", ())):
            for group in ([record], [HILL, record], [HILL] * 9 + [record]):
                with self.assertRaises(InvalidRecord):
                    group_network(publication, "jobs", group)

    def test_too_many_records(self):
        publication = publish(samples.land_census(), {"jobs": SQUARE})
        # Six people live in the hill, and nobody of the south works.
        self.assertEqual(group_network(publication, "jobs", [HILL] * 6).arcs()[6], (1, 5, 6, 6))
        for group in ([HILL] * 7, [("south", ("adult", "m", "yes"))], [SOUTH] * 5, [HILL] * 5 + [DALE] * 5):
            with self.assertRaises(InvalidPublication):
                group_network(publication, "jobs", group)
        # Five in the dale and four in the hill are nine, as the north has them.
        group_network(publication, "jobs", [HILL] * 4 + [DALE] * 5)
        # A hidden cell is bounded by the total of its area alone.
        everything = publish(samples.land_census(), {"jobs": cells_of(samples.land_plan(), "jobs")})
        group_network(everything, "jobs", [HILL] * 6 + [DALE] * 5)
        with self.assertRaises(InvalidPublication):
            group_network(everything, "jobs", [HILL] * 6 + [DALE] * 6)
        # The records of different classes are in different arcs.
        group_network(everything, "jobs", [HILL] * 6 + [("hill", ("adult", "m", "no"))] * 6)

    def test_networks_without_a_flow(self):
        census = samples.land_census()
        broken = Publication(census.plan, {**totals_of(census), "land": 14}, {"jobs": dict.fromkeys(counts_of(census, "jobs"))})
        self.assertEqual(group_network(broken, "jobs", [HILL]).arcs()[0], (3, 7, 1, 14))


class GroupsTest(unittest.TestCase):
    def assert_shown(self, publication, table, group, cell, least, greatest):
        before = list(group)
        self.assertEqual(group_range(publication, table, group, cell), (least, greatest))
        self.assertIs(type(group_range(publication, table, group, cell)), tuple)
        for way, count in ((-1, least), (1, greatest)):
            census = group_census(publication, table, group, cell, way)
            self.assertIsInstance(census, Census)
            self.assertIs(agrees(census, publication), True)
            for record in group:
                self.assertGreaterEqual(census.number(record), times_in(group, record))
            self.assertEqual(counts_of(census, table)[cell], count)
        papers = group_papers(publication, table, group, cell)
        self.assertIs(type(papers), tuple)
        self.assertEqual([paper[:2] for paper in papers], [(-1, least), (1, greatest)])
        for way, bound, members in papers:
            for looser, right in ((0, True), (1, True), (-1, False)):
                paper = (way, bound + looser * way, members)
                self.assertIs(check_group_paper(publication, table, group, cell, paper), right)
        self.assertEqual(group, before)

    def test_by_hand(self):
        publication = publish(samples.land_census(), {"jobs": SQUARE})
        # Hill has 4 to 6 in the class 0, dale 3 to 5; together they have 9.
        self.assert_shown(publication, "jobs", [], ("hill", 0), 4, 6)
        self.assert_shown(publication, "jobs", [HILL] * 3, ("hill", 0), 4, 6)
        self.assert_shown(publication, "jobs", [HILL] * 5, ("hill", 0), 5, 6)
        self.assert_shown(publication, "jobs", [HILL] * 5, ("dale", 0), 3, 4)
        self.assert_shown(publication, "jobs", [HILL] * 6, ("hill", 0), 6, 6)
        self.assert_shown(publication, "jobs", [DALE] * 4, ("hill", 0), 4, 5)
        self.assert_shown(publication, "jobs", [("hill", ("child", "f", "no"))], ("hill", 0), 4, 5)
        self.assert_shown(publication, "jobs", [("hill", ("child", "f", "no")), ("dale", ("child", "f", "no"))], ("hill", 0), 5, 5)
        self.assert_shown(publication, "jobs", [HILL], ("north", 0), 9, 9)

    def test_the_empty_group_has_the_ranges_of_everybody(self):
        census = samples.land_census()
        publication = publish(census, {"people": cells_of(census.plan, "people")[::2], "jobs": SQUARE})
        for table in ("people", "jobs"):
            for cell in cells_of(census.plan, table):
                least, greatest = cell_range(publication, table, cell)
                self.assert_shown(publication, table, [], cell, least, greatest)

    def test_against_all_censuses(self):
        generator = random.Random(151)
        plan = samples.pair_plan()
        kinds = [(leaf, (one, two)) for leaf in "xyz" for one in "ab" for two in "ab"]
        held = 0
        for _ in range(40):
            leaf_totals = {leaf: generator.randrange(3) for leaf in "xyz"}
            censuses = list(samples.all_censuses(plan, leaf_totals))
            patterns = {table: [cell for cell in cells_of(plan, table) if generator.random() < 0.85]
                        for table in generator.choice((["first"], ["first", "second"]))}
            publication = publish(generator.choice(censuses), patterns)
            group = [generator.choice(kinds) for _ in range(generator.randrange(4))]
            agreeing = [census for census in censuses if agrees(census, publication)
                        and all(census.number(record) >= times_in(group, record) for record in group)]
            for table in publication.tables():
                if not agreeing:
                    self.assert_invalid(publication, table, group)
                    continue
                held += len(group) > 0
                all_counts = [counts_of(census, table) for census in agreeing]
                for cell in cells_of(plan, table):
                    least, greatest = samples.tried_range(all_counts, cell)
                    self.assert_shown(publication, table, group, cell, least, greatest)
        self.assertGreater(held, 8)

    def assert_invalid(self, publication, table, group):
        for call in (lambda: group_range(publication, table, group, cells_of(publication.plan, table)[0]),
                     lambda: group_census(publication, table, group, cells_of(publication.plan, table)[0], 1),
                     lambda: group_census(publication, table, group, cells_of(publication.plan, table)[0], -1),
                     lambda: group_papers(publication, table, group, cells_of(publication.plan, table)[0])):
            with self.assertRaises(InvalidPublication):
                call()

    def test_groups_that_no_census_holds_together(self):
        census = samples.land_census()
        publication = publish(census, {"jobs": SQUARE})
        # Six in the hill and four in the dale would be ten, but the north has nine.
        group = [HILL] * 6 + [DALE] * 4
        with self.assertRaises(InvalidPublication):
            group_network(publication, "jobs", group)
        self.assert_invalid(publication, "jobs", group)
        # One of the dale and two of the hill would be three who do not work, but the north has two.
        group = [("dale", ("old", "f", "no"))] + [("hill", ("old", "f", "no"))] * 2
        self.assert_invalid(publication, "jobs", group)
        # Each arc alone can hold them, but the hill has six people and not seven.
        mixed = [HILL] * 5 + [("hill", ("adult", "m", "no"))] * 2
        wide = publish(census, {"jobs": cells_of(census.plan, "jobs")})
        group_network(wide, "jobs", mixed)
        self.assert_invalid(wide, "jobs", mixed)

    def test_other_tables_count_for_the_group_alone(self):
        census = samples.land_census()
        people = cells_of(census.plan, "people")
        # Nobody in the hill is an adult woman, as the people show; the jobs alone do not say so.
        woman = ("hill", ("adult", "f", "yes"))
        alone = publish(census, {"jobs": SQUARE})
        both = publish(census, {"jobs": SQUARE, "people": []})
        self.assert_shown(alone, "jobs", [woman], ("hill", 0), 4, 6)
        self.assert_invalid(both, "jobs", [woman])
        self.assertEqual(group_network(both, "jobs", [woman]).arcs(), group_network(alone, "jobs", [woman]).arcs())
        hidden = publish(census, {"jobs": SQUARE, "people": people})
        self.assert_shown(hidden, "jobs", [woman], ("hill", 0), 4, 6)
        # Here it is the flow of the other table that is missing.
        some = publish(census, {"jobs": SQUARE, "people": [("hill", 2), ("hill", 3)]})
        self.assert_invalid(some, "jobs", [woman])

    def test_publications_that_are_not_possible(self):
        census = samples.land_census()
        jobs = counts_of(census, "jobs")
        people = counts_of(census, "people")
        totals = totals_of(census)
        for broken in (Publication(census.plan, {**totals, "land": 14}, {"jobs": dict.fromkeys(jobs)}),
                       Publication(census.plan, totals, {"jobs": {**jobs, ("hill", 0): 5}}),
                       Publication(census.plan, totals, {"jobs": jobs, "people": {**people, ("dale", 0): 1}})):
            for group in ([], [HILL]):
                self.assert_invalid(broken, "jobs", group)
                self.assertIs(check_group_paper(broken, "jobs", group, ("hill", 0), (1, 99, None)), True)

    def test_errors_in_their_order(self):
        census = samples.land_census()
        totals = totals_of(census)
        broken = Publication(census.plan, {**totals, "land": 14}, {"jobs": counts_of(census, "jobs")})
        for publication in (publish(census, {"jobs": SQUARE}), broken):
            for call in (group_range, lambda *told: group_census(*told, 1), group_papers,
                         lambda *told: check_group_paper(*told, None)):
                with self.assertRaises(UnknownName) as caught:
                    call(publication, "people", [("moon", ())], ("hill", 0))
                self.assertEqual(caught.exception.name, "people")
                with self.assertRaises(InvalidRecord):
                    call(publication, "jobs", [HILL] * 9 + [("moon", ("adult", "m", "yes"))], ("hill", 0))
                with self.assertRaises(InvalidPublication):
                    call(publication, "jobs", [HILL] * 9, ("hill", 0))

    def test_check_group_paper(self):
        publication = publish(samples.land_census(), {"jobs": SQUARE})
        check = lambda group, paper: check_group_paper(publication, "jobs", group, ("hill", 0), paper)
        self.assertIs(check([HILL] * 5, (-1, 5, None)), True)
        self.assertIs(check([HILL] * 5, (-1, 6, None)), False)
        self.assertIs(check([HILL] * 4, (-1, 5, None)), False)
        self.assertIs(check([], (1, 9, [5])), True)
        self.assertIs(check([], (1, 8, [5])), False)
        self.assertIs(check([DALE] * 2, (1, 7, [5])), True)
        self.assertIs(check([DALE] * 2, (1, 6, [5])), False)
        for paper in (None, (1, 99), [1, 99, None], (1, 99, (5,)), (1, 99, [5, 5]), (1, 99, [8]), (0, 99, None),
                      (1, "99", None), (1, 99, [1]), (-1, -99, [5])):
            self.assertIs(check([HILL], paper), False)

    def test_results_are_new(self):
        publication = publish(samples.land_census(), {"jobs": SQUARE})
        first = group_census(publication, "jobs", [HILL] * 5, ("hill", 0), 1)
        first.add(HILL, 3)
        self.assert_shown(publication, "jobs", [HILL] * 5, ("hill", 0), 5, 6)
        for paper in group_papers(publication, "jobs", [DALE], ("hill", 0)):
            if paper[2] is not None:
                paper[2].clear()
        self.assert_shown(publication, "jobs", [DALE], ("hill", 0), 4, 6)

import random
import unittest

import samples
from cellguard.census import Census
from cellguard.counting import cells_of, counts_fit, counts_of, totals_of
from cellguard.errors import InvalidPublication, UnknownName
from cellguard.flows import closed_set, find_flow
from cellguard.linking import arc_of, census_from, is_possible, network_of
from cellguard.network import Network, is_flow
from cellguard.plan import Plan
from cellguard.publication import Publication, agrees, publish


def changed(publication, table=None, cells=None, totals=None):
    """A publication with other numbers in some cells of a table, or other totals."""
    tables = {name: publication.cells(name) for name in publication.tables()}
    for cell, count in (cells or {}).items():
        tables[table][cell] = count
    return Publication(publication.plan, {**publication.totals(), **(totals or {})}, tables)


class NetworkOfTest(unittest.TestCase):
    def test_written_out_by_hand(self):
        # Nodes: south 0, hill 1, dale 2, land 3 and 4, north 5 and 6, end 7.
        publication = publish(samples.land_census(), {"jobs": [("land", 1), ("north", 0), ("south", 0), ("dale", 1)]})
        network = network_of(publication, "jobs")
        self.assertIsInstance(network, Network)
        self.assertEqual(network.nodes, 8)
        self.assertEqual(network.arcs(), [
            (3, 7, 9, 9), (4, 7, 0, 15),
            (5, 3, 0, 11), (6, 4, 2, 2),
            (0, 3, 0, 4), (0, 4, 4, 4),
            (1, 5, 4, 4), (1, 6, 2, 2),
            (2, 5, 5, 5), (2, 6, 0, 5),
            (7, 0, 4, 4), (7, 1, 6, 6), (7, 2, 5, 5),
        ])

    def test_areas_in_a_mixed_order(self):
        # Nodes: b 0, c 1, d 2, root 3 and 4, a 5 and 6, end 7; every inner area comes behind the leaves.
        plan = Plan([("root", None), ("a", "root"), ("b", "root"), ("c", "a"), ("d", "a")],
                    [("one", ["x", "y"])], [("t", [("one", [["y"], ["x"]])])])
        census = Census(plan, [(("b", ("x",)), 2), (("c", ("y",)), 3), (("d", ("x",)), 1)])
        self.assertEqual(network_of(publish(census, {"t": [("a", 0), ("c", 0), ("c", 1)]}), "t").arcs(), [
            (3, 7, 3, 3), (4, 7, 3, 3), (5, 3, 0, 4), (6, 4, 1, 1), (0, 3, 0, 0), (0, 4, 2, 2),
            (1, 5, 0, 3), (1, 6, 0, 3), (2, 5, 0, 0), (2, 6, 1, 1), (7, 0, 2, 2), (7, 1, 3, 3), (7, 2, 1, 1)])

    def test_tree_of_one_area(self):
        plan = Plan([("land", None)], [("one", ["x", "y", "z"])], [("t", [("one", [["x"], ["y"], ["z"]])])])
        census = Census(plan, [(("land", ("x",)), 2), (("land", ("z",)), 5)])
        network = network_of(publish(census, {"t": [("land", 0), ("land", 1)]}), "t")
        self.assertEqual(network.nodes, 2)
        self.assertEqual(network.arcs(), [(0, 1, 0, 7), (0, 1, 0, 7), (0, 1, 5, 5), (1, 0, 7, 7)])

    def test_of_a_publication_that_is_not_possible(self):
        publication = publish(samples.land_census(), {"jobs": [("land", 1)]})
        network = network_of(changed(publication, "jobs", {("hill", 0): 99}, {"land": 3}), "jobs")
        self.assertEqual(network.arcs()[1], (4, 7, 0, 3))
        self.assertEqual(network.arcs()[6], (1, 5, 99, 99))

    def test_flows_are_the_counts_that_fit(self):
        plan = samples.pair_plan()
        census = Census(plan, [(("x", ("a", "a")), 2), (("y", ("b", "a")), 1), (("z", ("a", "b")), 2)])
        publication = publish(census, {"first": [("top", 0), ("left", 0), ("left", 1), ("x", 0), ("y", 1), ("z", 0)]})
        network = network_of(publication, "first")
        cells = cells_of(plan, "first")
        totals = publication.totals()
        wanted = []
        for x in range(3):
            for y in range(2):
                for z in range(3):
                    rows = {"x": [x, 2 - x], "y": [y, 1 - y], "z": [z, 2 - z]}
                    rows["left"] = [x + y, 3 - x - y]
                    rows["top"] = [x + y + z, 5 - x - y - z]
                    counts = {cell: rows[cell[0]][cell[1]] for cell in cells}
                    if all(count in (None, counts[cell]) for cell, count in publication.cells("first").items()):
                        self.assertTrue(counts_fit(plan, "first", counts, totals))
                        wanted.append(list(counts.values()) + [2, 1, 2])
        found = list(samples.all_flows(network.nodes, network.arcs()))
        self.assertEqual(sorted(found), sorted(wanted))
        self.assertGreater(len(found), 0)

    def test_counts_of_the_census_are_a_flow(self):
        census = samples.land_census()
        publication = publish(census, {"people": [("land", 0), ("hill", 3)]})
        totals = totals_of(census)
        values = list(counts_of(census, "people").values()) + [totals[leaf] for leaf in census.plan.areas.leaves()]
        self.assertIs(is_flow(network_of(publication, "people"), values), True)

    def test_unknown_tables(self):
        publication = publish(samples.land_census(), {"jobs": []})
        for name in ("people", "age"):
            with self.assertRaises(UnknownName) as caught:
                network_of(publication, name)
            self.assertEqual(caught.exception.name, name)

    def test_arc_of(self):
        plan = samples.land_plan()
        for table in plan.tables():
            for number, cell in enumerate(cells_of(plan, table)):
                self.assertEqual(arc_of(plan, table, cell), number)


class IsPossibleTest(unittest.TestCase):
    def setUp(self):
        self.census = samples.land_census()
        self.plan = self.census.plan
        self.publication = publish(self.census, {"people": [("land", 0), ("land", 1), ("north", 0), ("north", 1),
                                                            ("hill", 0), ("hill", 1)], "jobs": []})

    def test_publications_of_a_census(self):
        everything = {table: cells_of(self.plan, table) for table in self.plan.tables()}
        for patterns in ({}, {"people": []}, {"people": [], "jobs": []}, everything):
            self.assertIs(is_possible(publish(self.census, patterns)), True)
        self.assertIs(is_possible(self.publication), True)
        self.assertIs(is_possible(publish(Census(self.plan, []), everything)), True)

    def test_totals_that_do_not_sum_up(self):
        nothing = publish(self.census, {})
        for area in self.plan.areas.names():
            for other in (nothing, self.publication):
                self.assertIs(is_possible(changed(other, totals={area: 7})), False)
        everything = publish(self.census, {table: cells_of(self.plan, table) for table in self.plan.tables()})
        self.assertIs(is_possible(changed(everything, totals={"north": 12})), False)
        self.assertIs(is_possible(changed(everything, totals={"land": 16})), False)
        self.assertIs(is_possible(changed(everything, totals={"hill": 7, "north": 12, "land": 16})), True)
        self.assertIs(is_possible(changed(nothing, totals={"hill": 7, "north": 12, "land": 16})), True)

    def test_shown_counts_that_no_census_has(self):
        for cell, count in ((("hill", 2), 1), (("hill", 3), 7), (("dale", 0), 1), (("south", 1), 2), (("north", 2), 6)):
            self.assertIs(is_possible(changed(self.publication, "people", {cell: count})), False)
        self.assertIs(is_possible(changed(self.publication, "jobs", {("hill", 0): 5})), False)
        self.assertIs(is_possible(changed(self.publication, "people", {("hill", 0): 1})), True)
        self.assertIs(is_possible(changed(self.publication, "people", {("hill", 0): 3})), False)

    def test_one_impossible_table_is_enough(self):
        for table in ("people", "jobs"):
            publication = publish(self.census, {"people": [], "jobs": []})
            self.assertIs(is_possible(changed(publication, table, {("south", 0): 1})), False)

    def test_against_all_censuses(self):
        generator = random.Random(20)
        plan = samples.pair_plan()
        found = {True: 0, False: 0}
        for _ in range(60):
            leaf_totals = {"x": generator.randrange(3), "y": generator.randrange(3), "z": generator.randrange(2)}
            censuses = list(samples.all_censuses(plan, leaf_totals))
            census = generator.choice(censuses)
            patterns = {table: [cell for cell in cells_of(plan, table) if generator.random() < 0.7]
                        for table in generator.choice((["first"], ["second"], ["first", "second"]))}
            publication = publish(census, patterns)
            table = generator.choice(publication.tables())
            cell = generator.choice(cells_of(plan, table))
            publication = changed(publication, table, {cell: generator.randrange(4)})
            possible = any(agrees(other, publication) for other in censuses)
            found[possible] += 1
            self.assertIs(is_possible(publication), possible)
            network = network_of(publication, table)
            self.assertIs(find_flow(network) is not None, possible)
            self.assertIs(closed_set(network) is None, possible)
        self.assertGreater(min(found.values()), 10)


class CensusFromTest(unittest.TestCase):
    def setUp(self):
        self.census = samples.land_census()
        self.plan = self.census.plan
        self.publication = publish(self.census, {
            "people": [("land", 0), ("land", 2), ("north", 0), ("north", 2), ("hill", 0), ("hill", 2)],
            "jobs": cells_of(self.plan, "jobs")})

    def assert_agrees(self, publication, counts):
        census = census_from(publication, counts)
        self.assertIsInstance(census, Census)
        self.assertIs(census.plan, publication.plan)
        self.assertIs(agrees(census, publication), True)
        for table in counts:
            self.assertEqual(counts_of(census, table), counts[table])

    def test_no_table_handed_in(self):
        self.assert_agrees(self.publication, {})
        self.assert_agrees(publish(self.census, {}), {})
        self.assert_agrees(publish(self.census, {"jobs": []}), {})
        self.assert_agrees(publish(Census(self.plan, []), {"jobs": []}), {})

    def test_some_and_all_tables_handed_in(self):
        people = counts_of(self.census, "people")
        for cell, change in ((("hill", 0), -1), (("north", 0), -1), (("land", 0), -1), (("hill", 2), 1), (("north", 2), 1),
                             (("land", 2), 1)):
            people[cell] += change
        jobs = {("land", 0): 7, ("land", 1): 8, ("north", 0): 3, ("north", 1): 8, ("south", 0): 4, ("south", 1): 0,
                ("hill", 0): 0, ("hill", 1): 6, ("dale", 0): 3, ("dale", 1): 2}
        self.assert_agrees(self.publication, {"people": people})
        self.assert_agrees(self.publication, {"jobs": jobs})
        self.assert_agrees(self.publication, {"people": people, "jobs": jobs})
        self.assert_agrees(self.publication, {"jobs": jobs, "people": people})
        # A table of the plan that is not published may be handed in, too.
        self.assert_agrees(publish(self.census, {"people": []}), {"jobs": jobs})
        self.assert_agrees(publish(self.census, {}), {"people": people, "jobs": jobs})

    def test_many_tables(self):
        generator = random.Random(18)
        attributes = [(f"a{k}", ["p", "q", "r", "s"]) for k in range(12)]
        tables = [(f"t{k}", [(f"a{k}", [["q"], ["p", "s"], ["r"]])]) for k in range(7)]
        tables.append(("t7", [("a10", [["r"], ["p", "q", "s"]]), ("a8", [["s", "q"], ["p"], ["r"]])]))
        plan = Plan([("top", None), ("mid", "top"), ("x", "mid"), ("y", "mid"), ("z", "top")], attributes, tables)
        records = [((generator.choice("xyz"), tuple(generator.choice("pqrs") for _ in range(12))),
                    generator.choice((0, 1, 3, 100000))) for _ in range(80)]
        census = Census(plan, records)
        patterns = {table: [cell for cell in cells_of(plan, table) if generator.random() < 0.6] for table in plan.tables()}
        self.assert_agrees(publish(census, patterns), {})
        self.assert_agrees(publish(census, patterns), {table: counts_of(census, table) for table in plan.tables()})
        del patterns["t7"]
        del patterns["t2"]
        self.assert_agrees(publish(census, patterns), {"t2": counts_of(census, "t2")})

    def test_not_possible(self):
        for broken in (changed(self.publication, totals={"land": 16}),
                       changed(self.publication, "people", {("dale", 1): 1}),
                       changed(publish(self.census, {}), totals={"north": 12})):
            for counts in ({}, {"jobs": counts_of(self.census, "jobs")}):
                with self.assertRaises(InvalidPublication):
                    census_from(broken, counts)

    def test_nothing_is_modified(self):
        counts = {"jobs": counts_of(self.census, "jobs")}
        census_from(self.publication, counts)
        self.assertEqual(counts, {"jobs": counts_of(self.census, "jobs")})
        census_from(self.publication, {}).add(("hill", ("old", "m", "no")), 5)
        self.assertEqual(self.publication.totals(), totals_of(self.census))
        self.assertIs(agrees(census_from(self.publication, {}), self.publication), True)

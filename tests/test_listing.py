import random
import unittest
from itertools import islice

import samples
from cellguard.census import Census
from cellguard.counting import cells_of, counts_fit, counts_of, totals_of
from cellguard.errors import InvalidPublication, TooLarge, UnknownName
from cellguard.listing import all_counts, number_of_counts
from cellguard.publication import Publication, publish

SQUARE = [("hill", 0), ("hill", 1), ("dale", 0), ("dale", 1)]


def tried_counts(tables, counts, pattern):
    """All counts that fit, in the order of point 51."""
    return sorted(samples.agreeing_tables(tables, counts, pattern), key=lambda found: list(found.values()))


class AllCountsTest(unittest.TestCase):
    def test_by_hand(self):
        census = samples.land_census()
        publication = publish(census, {"jobs": SQUARE})
        found = list(all_counts(publication, "jobs"))
        # The hill has 6 people, the dale 5, and together they have 9 in the class 0.
        self.assertEqual([[counts[cell] for cell in SQUARE] for counts in found], [[4, 2, 5, 0], [5, 1, 4, 1], [6, 0, 3, 2]])
        for counts in found:
            self.assertIs(type(counts), dict)
            self.assertEqual(list(counts), cells_of(census.plan, "jobs"))
            self.assertIs(counts_fit(census.plan, "jobs", counts, totals_of(census)), True)
            self.assertEqual([counts[("land", 0)], counts[("south", 1)]], [9, 4])
        self.assertEqual(number_of_counts(publication, "jobs"), 3)

    def test_nothing_hidden(self):
        census = samples.land_census()
        publication = publish(census, {"jobs": []})
        self.assertEqual(list(all_counts(publication, "jobs")), [counts_of(census, "jobs")])
        self.assertEqual(number_of_counts(publication, "jobs", most=1), 1)

    def test_against_all_tables(self):
        generator = random.Random(231)
        lengths = set()
        for plan in (samples.triple_plan(), samples.flat_plan(3, 2), samples.flat_plan(2, 4), samples.flat_plan(4, 2)):
            for _ in range(12):
                census = samples.random_census(plan, generator, (0, 0, 1, 1, 2))
                counts = counts_of(census, "t")
                tables = samples.all_tables(plan, "t", totals_of(census))
                for share in (0.5, 0.8, 0.9):
                    pattern = [cell for cell in counts if generator.random() < share]
                    publication = publish(census, {"t": pattern})
                    wanted = tried_counts(tables, counts, pattern)
                    self.assertEqual(list(all_counts(publication, "t")), wanted)
                    self.assertEqual(number_of_counts(publication, "t"), len(wanted))
                    lengths.add(len(wanted))
                wanted = tried_counts(tables, counts, list(counts))
                self.assertEqual(list(islice(all_counts(publish(census, {"t": list(counts)}), "t"), 300)), wanted[:300])
        self.assertGreater(len(lengths), 20)

    def test_several_levels(self):
        areas = [("top", None), ("a", "top"), ("b", "a"), ("c", "b"), ("d", "b"), ("e", "a"), ("f", "top")]
        plan = samples.Plan(areas, [("one", ["a", "b"])], [("t", [("one", [["b"], ["a"]])])])
        generator = random.Random(232)
        for _ in range(25):
            census = samples.random_census(plan, generator, (0, 1, 2))
            counts = counts_of(census, "t")
            tables = samples.all_tables(plan, "t", totals_of(census))
            pattern = [cell for cell in counts if generator.random() < 0.85]
            self.assertEqual(list(all_counts(publish(census, {"t": pattern}), "t")), tried_counts(tables, counts, pattern))

    def test_a_single_area_and_an_empty_census(self):
        plan = samples.Plan([("top", None)], [("one", ["a", "b", "c"])], [("t", [("one", [["a"], ["b"], ["c"]])])])
        census = samples.census_of_rows(plan, {"top": [1, 2, 0]})
        found = list(all_counts(publish(census, {"t": cells_of(plan, "t")}), "t"))
        self.assertEqual([list(counts.values()) for counts in found], sorted(samples.splits(3, 3)))
        plan = samples.land_plan()
        empty = Census(plan, [])
        publication = publish(empty, {"people": cells_of(plan, "people")})
        self.assertEqual(list(all_counts(publication, "people")), [counts_of(empty, "people")])

    def test_the_first_ones_of_very_many(self):
        plan = samples.flat_plan(8, 6)
        census = samples.census_of_rows(plan, {f"l{k}": [100 * k + j for j in range(6)] for k in range(8)})
        publication = publish(census, {"t": cells_of(plan, "t")})
        found = list(islice(all_counts(publication, "t"), 200))
        rows = [list(counts.values()) for counts in found]
        self.assertEqual(rows, sorted(rows))
        self.assertEqual(len(set(map(tuple, rows))), 200)
        self.assertEqual(rows[0][:6], [0, 0, 0, 0, 0, census.people()])
        for counts in found:
            self.assertIs(counts_fit(plan, "t", counts, totals_of(census)), True)
        with self.assertRaises(TooLarge):
            number_of_counts(publication, "t")

    def test_other_tables_do_not_matter_but_must_be_possible(self):
        census = samples.land_census()
        people = counts_of(census, "people")
        publication = publish(census, {"jobs": SQUARE, "people": []})
        self.assertEqual(number_of_counts(publication, "jobs"), 3)
        broken = Publication(census.plan, totals_of(census), {"jobs": publication.cells("jobs"), "people": {**people, ("hill", 0): 9}})
        with self.assertRaises(InvalidPublication):
            list(all_counts(broken, "jobs"))

    def test_every_dict_is_new(self):
        publication = publish(samples.land_census(), {"jobs": SQUARE})
        kept = []
        for counts in all_counts(publication, "jobs"):
            kept.append(dict(counts))
            counts.clear()
        self.assertEqual(kept, list(all_counts(publication, "jobs")))
        self.assertEqual(len(kept), 3)
        # Two listings at the same time do not touch each other.
        pairs = list(zip(all_counts(publication, "jobs"), all_counts(publication, "jobs")))
        self.assertTrue(all(first == second and first is not second for first, second in pairs))

    def test_errors_in_their_order(self):
        census = samples.land_census()
        totals = totals_of(census)
        broken = Publication(census.plan, {**totals, "land": 14}, {"jobs": counts_of(census, "jobs")})
        for publication in (broken, publish(census, {"jobs": SQUARE})):
            for table in ("people", "zoo"):
                with self.assertRaises(UnknownName) as caught:
                    list(all_counts(publication, table))
                self.assertEqual(caught.exception.name, table)
                with self.assertRaises(UnknownName) as caught:
                    number_of_counts(publication, table, most=0)
                self.assertEqual(caught.exception.name, table)
        with self.assertRaises(InvalidPublication):
            next(iter(all_counts(broken, "jobs")))
        with self.assertRaises(InvalidPublication):
            number_of_counts(broken, "jobs", most=0)

    def test_most(self):
        publication = publish(samples.land_census(), {"jobs": SQUARE})
        for most in (3, 4, 10000):
            self.assertEqual(number_of_counts(publication, "jobs", most=most), 3)
        for most in (0, 1, 2):
            with self.assertRaises(TooLarge):
                number_of_counts(publication, "jobs", most=most)
        # Without `most` it is 10000: the counts of one leaf beside another one.
        for people, large in ((9999, False), (10000, True)):
            census = samples.census_of_rows(samples.flat_plan(2, 2), {"l0": [0, people], "l1": [people, 3]})
            publication = publish(census, {"t": [("l0", 0), ("l0", 1), ("l1", 0), ("l1", 1)]})
            if large:
                with self.assertRaises(TooLarge):
                    number_of_counts(publication, "t")
            else:
                self.assertEqual(number_of_counts(publication, "t"), 10000)

import random
import unittest

import samples
from cellguard.bands import band_of, banded_census, banded_network, banded_range, banded_text, is_safe_banded, least_base
from cellguard.census import Census
from cellguard.counting import cells_of, counts_of, totals_of
from cellguard.errors import InvalidPattern, UnknownName
from cellguard.linking import network_of
from cellguard.network import Network
from cellguard.publication import publish
from cellguard.ranges import cell_range
from cellguard.rules import is_safe, protected_cells, wanted_range

SQUARE = [("hill", 0), ("hill", 1), ("dale", 0), ("dale", 1)]


def fitting_tables(tables, counts, pattern, base):
    """The tables with the shown counts, and with the hidden ones in their bands."""
    return [other for other in samples.agreeing_tables(tables, counts, pattern)
            if all(other[cell] // base == counts[cell] // base for cell in pattern)]


def random_cases(seed, many):
    generator = random.Random(seed)
    for _ in range(many):
        plan = generator.choice((samples.triple_plan(), samples.flat_plan(3, 2), samples.flat_plan(2, 3)))
        census = samples.random_census(plan, generator, (0, 0, 1, 1, 2, 3))
        share = generator.choice((0.6, 0.8, 1))
        pattern = [cell for cell in cells_of(plan, "t") if generator.random() < share]
        yield census, pattern, samples.all_tables(plan, "t", totals_of(census)), generator


class BandOfTest(unittest.TestCase):
    def test_bands(self):
        for count, base, band in ((0, 5, (0, 4)), (4, 5, (0, 4)), (5, 5, (5, 9)), (6, 5, (5, 9)), (9, 5, (5, 9)), (10, 5, (10, 14)),
                                  (0, 1, (0, 0)), (1, 1, (1, 1)), (7, 1, (7, 7)), (0, 2, (0, 1)), (999999, 1000, (999000, 999999)),
                                  (1000000, 7, (999999, 1000005))):
            self.assertEqual(band_of(count, base), band)
            self.assertIs(type(band_of(count, base)), tuple)
        for base in range(1, 9):
            for count in range(30):
                low, high = band_of(count, base)
                self.assertTrue(low <= count <= high and low % base == 0 and high == low + base - 1)


class BandedNetworkTest(unittest.TestCase):
    def test_by_hand(self):
        census = samples.land_census()
        network = banded_network(census, "jobs", [("land", 1), ("north", 0)] + SQUARE, 3)
        self.assertIsInstance(network, Network)
        self.assertEqual(network.nodes, 8)
        self.assertEqual(network.arcs(), [
            (3, 7, 9, 9), (4, 7, 6, 8),
            (5, 3, 9, 11), (6, 4, 2, 2),
            (0, 3, 0, 0), (0, 4, 4, 4),
            (1, 5, 3, 5), (1, 6, 0, 2),
            (2, 5, 3, 5), (2, 6, 0, 2),
            (7, 0, 4, 4), (7, 1, 6, 6), (7, 2, 5, 5),
        ])
        # The band goes up to 7, the people of the dale to 5.
        self.assertEqual(banded_network(census, "jobs", SQUARE, 4).arcs()[6:10], [(1, 5, 4, 6), (1, 6, 0, 3), (2, 5, 4, 5), (2, 6, 0, 3)])

    def test_a_large_base_is_as_hidden(self):
        census = samples.land_census()
        for pattern in ([], SQUARE, cells_of(census.plan, "jobs")):
            hidden = network_of(publish(census, {"jobs": pattern}), "jobs").arcs()
            self.assertEqual(banded_network(census, "jobs", pattern, 1000000).arcs(), hidden)
        shown = network_of(publish(census, {"jobs": []}), "jobs").arcs()
        self.assertEqual(banded_network(census, "jobs", cells_of(census.plan, "jobs"), 1).arcs(), shown)


class BandedRangeTest(unittest.TestCase):
    def test_by_hand(self):
        census = samples.land_census()
        # With the base 3 the hill has 3 to 5 in the class 0, so that of its 6 people at least one is in the class 1.
        self.assertEqual([banded_range(census, "jobs", SQUARE, 3, cell) for cell in SQUARE], [(4, 5), (1, 2), (4, 5), (0, 1)])
        self.assertEqual([banded_range(census, "jobs", SQUARE, 100, cell) for cell in SQUARE], [(4, 6), (0, 2), (3, 5), (0, 2)])
        self.assertEqual([banded_range(census, "jobs", SQUARE, 1, cell) for cell in SQUARE], [(4, 4), (2, 2), (5, 5), (0, 0)])
        self.assertIs(type(banded_range(census, "jobs", SQUARE, 3, ("land", 0))), tuple)
        self.assertEqual(banded_range(census, "jobs", SQUARE, 3, ("land", 0)), (9, 9))

    def test_against_all_tables(self):
        narrower = 0
        for census, pattern, tables, generator in random_cases(301, 40):
            counts = counts_of(census, "t")
            for base in (1, 2, 3, 50):
                fitting = fitting_tables(tables, counts, pattern, base)
                for cell in counts:
                    wanted = samples.tried_range(fitting, cell)
                    self.assertEqual(banded_range(census, "t", pattern, base, cell), wanted)
                    narrower += wanted != cell_range(publish(census, {"t": pattern}), "t", cell)
        self.assertGreater(narrower, 100)

    def test_a_multiple_of_a_base(self):
        for census, pattern, _, generator in random_cases(302, 25):
            for cell in pattern:
                for base, multiple in ((1, 2), (2, 4), (3, 6), (2, 6), (1, 7)):
                    inner = banded_range(census, "t", pattern, base, cell)
                    outer = banded_range(census, "t", pattern, multiple, cell)
                    self.assertTrue(outer[0] <= inner[0] and inner[1] <= outer[1])

    def test_censuses(self):
        generator = random.Random(303)
        census = samples.land_census()
        before = census.records()
        for table in ("people", "jobs"):
            counts = counts_of(census, table)
            for base in (1, 3, 10):
                pattern = [cell for cell in counts if generator.random() < 0.8]
                copy = list(pattern)
                for cell in counts:
                    ends = banded_range(census, table, pattern, base, cell)
                    for way, count in zip((-1, 1), ends):
                        found = banded_census(census, table, pattern, base, cell, way)
                        self.assertIsInstance(found, Census)
                        self.assertEqual(totals_of(found), totals_of(census))
                        others = counts_of(found, table)
                        self.assertEqual(others[cell], count)
                        for other in counts:
                            low, high = band_of(counts[other], base) if other in pattern else (counts[other], counts[other])
                            self.assertTrue(low <= others[other] <= high)
                self.assertEqual(pattern, copy)
        self.assertEqual(census.records(), before)


class SafeBandsTest(unittest.TestCase):
    def tried_safe(self, census, rule, pattern, base, tables):
        fitting = fitting_tables(tables, counts_of(census, "t"), pattern, base)
        for cell in protected_cells(census, "t", rule):
            low, high = wanted_range(census, "t", rule, cell)
            least, greatest = samples.tried_range(fitting, cell)
            if cell not in pattern or least > low or greatest < high:
                return False
        return True

    def test_by_hand(self):
        census = samples.land_census()
        cells = cells_of(census.plan, "jobs")
        # Protected are (north, 1) and (hill, 1) with 2 each; they are to reach from 1 to 3.
        rule = (3, 1, 1)
        self.assertEqual(protected_cells(census, "jobs", rule), [("north", 1), ("hill", 1)])
        # With 6 the north has 6 to 11 in the class 0, and at least 2 in the class 1; with 9 it has at most 2 there.
        self.assertEqual([base for base in range(1, 14) if is_safe_banded(census, "jobs", rule, cells, base)], [7, 8, 11, 12, 13])
        self.assertIs(is_safe_banded(census, "jobs", rule, cells, 1000), True)
        self.assertIs(is_safe_banded(census, "jobs", rule, [cell for cell in cells if cell != ("hill", 1)], 1000), False)
        self.assertIs(is_safe_banded(census, "jobs", rule, [], 1000), False)
        # A rule that wants nothing but that the cells are hidden, and one that protects nothing.
        self.assertIs(is_safe_banded(census, "jobs", (3, 0, 0), [("north", 1), ("hill", 1)], 1), True)
        self.assertIs(is_safe_banded(census, "jobs", (3, 0, 0), [("hill", 1)], 1), False)
        self.assertIs(is_safe_banded(census, "jobs", (2, 5, 5), [], 1), True)

    def test_against_all_tables(self):
        seen = {True: 0, False: 0}
        for census, pattern, tables, generator in random_cases(304, 60):
            for rule in ((2, 1, 1), (3, 1, 2), (4, 0, 1), (0, 9, 9)):
                hidden = sorted(set(pattern) | set(protected_cells(census, "t", rule)), key=cells_of(census.plan, "t").index)
                for chosen in (pattern, hidden):
                    for base in (1, 2, 4, 30):
                        found = is_safe_banded(census, "t", rule, chosen, base)
                        self.assertIs(found, self.tried_safe(census, rule, chosen, base, tables))
                        seen[found] += 1
                    self.assertIs(is_safe_banded(census, "t", rule, chosen, 1000), is_safe(census, "t", rule, chosen))
        self.assertGreater(min(seen.values()), 100)

    def test_least_base(self):
        census = samples.land_census()
        cells = cells_of(census.plan, "jobs")
        rule = (3, 1, 1)
        for bases, base in (([1, 2, 4, 6, 7, 8], 7), ([9, 8, 7], 8), ([7, 100], 7), ([100, 7], 100), ([1, 2, 9], None), ([], None), ([1], None)):
            copy = list(bases)
            self.assertEqual(least_base(census, "jobs", rule, cells, bases), base)
            self.assertEqual(bases, copy)
        self.assertIsNone(least_base(census, "jobs", rule, [], [1, 5, 1000]))
        self.assertEqual(least_base(census, "jobs", (1, 1, 1), [], [3, 1]), 3)
        generator = random.Random(305)
        for _ in range(20):
            other = samples.random_census(samples.triple_plan(), generator, (0, 1, 2, 6))
            pattern = cells_of(other.plan, "t")
            bases = generator.sample(range(1, 12), 6)
            safe = [base for base in bases if is_safe_banded(other, "t", (3, 1, 2), pattern, base)]
            self.assertEqual(least_base(other, "t", (3, 1, 2), pattern, bases), safe[0] if safe else None)


class BandedTextTest(unittest.TestCase):
    def test_word_by_word(self):
        census = samples.land_census()
        self.assertEqual(banded_text(census, "jobs", [("land", 1)] + SQUARE, 3), (
            "row land 9 6..8\n"
            "row north 9 2\n"
            "row south 0 4\n"
            "row hill 3..5 0..2\n"
            "row dale 3..5 0..2\n"
        ))
        self.assertEqual(banded_text(census, "jobs", [], 3), "row land 9 6\nrow north 9 2\nrow south 0 4\nrow hill 4 2\nrow dale 5 0\n")
        # The band is not cut by the total, and with the base 1 it is one number, written twice.
        self.assertEqual(banded_text(census, "jobs", SQUARE, 100).splitlines()[3:], ["row hill 0..99 0..99", "row dale 0..99 0..99"])
        self.assertEqual(banded_text(census, "jobs", SQUARE, 1).splitlines()[3:], ["row hill 4..4 2..2", "row dale 5..5 0..0"])

    def test_four_classes(self):
        self.assertEqual(banded_text(samples.land_census(), "people", [("hill", 0), ("hill", 3)], 2).splitlines()[3],
                         "row hill 2..3 0 0 4..5")


class ErrorsTest(unittest.TestCase):
    CALLS = (
        lambda census, table, pattern: banded_network(census, table, pattern, 3),
        lambda census, table, pattern: banded_range(census, table, pattern, 3, ("hill", 0)),
        lambda census, table, pattern: banded_census(census, table, pattern, 3, ("hill", 0), 1),
        lambda census, table, pattern: is_safe_banded(census, table, (3, 1, 1), pattern, 3),
        lambda census, table, pattern: least_base(census, table, (3, 1, 1), pattern, [3]),
        lambda census, table, pattern: least_base(census, table, (3, 1, 1), pattern, []),
        lambda census, table, pattern: banded_text(census, table, pattern, 3),
    )

    def test_errors_in_their_order(self):
        census = samples.land_census()
        for call in self.CALLS:
            for table in ("age", "zoo"):
                for pattern in ([], SQUARE, SQUARE[::-1]):
                    with self.assertRaises(UnknownName) as caught:
                        call(census, table, pattern)
                    self.assertEqual(caught.exception.name, table)
            for pattern in (SQUARE[::-1], [SQUARE[0]] * 2, [("moon", 0)], [("hill", 2)], [("hill", -1)], SQUARE + [("land", 0)]):
                with self.assertRaises(InvalidPattern):
                    call(census, "jobs", pattern)
            call(census, "jobs", SQUARE)

    def test_an_empty_census(self):
        census = Census(samples.land_plan(), [])
        self.assertEqual(banded_range(census, "jobs", SQUARE, 5, ("hill", 0)), (0, 0))
        self.assertIs(is_safe_banded(census, "jobs", (9, 1, 1), [], 1), True)
        self.assertEqual(banded_text(census, "jobs", SQUARE, 5).splitlines()[3], "row hill 0..4 0..4")

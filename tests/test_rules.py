import random
import unittest

import samples
from cellguard.census import census_text
from cellguard.counting import cells_of, counts_of, totals_of
from cellguard.errors import InvalidPattern, UnknownName
from cellguard.publication import publish
from cellguard.ranges import cell_range
from cellguard.rules import exposed_cells, is_safe, pattern_cost, protected_cells, wanted_range

RULES = [(0, 1, 1), (1, 5, 5), (2, 0, 0), (2, 1, 1), (3, 1, 2), (3, 2, 0), (4, 0, 3), (4, 2, 2), (9, 9, 9)]


def row_census(*rows):
    """A census of three classes; its table has the classes in the order of the values."""
    plan = samples.flat_plan(len(rows), len(rows[0]))
    return samples.census_of_rows(plan, {f"l{k}": row for k, row in enumerate(rows)})


class ProtectedTest(unittest.TestCase):
    def test_counts_around_the_threshold(self):
        census = row_census([0, 1, 2], [3, 4, 5])
        # The root has 3, 5 and 7.
        self.assertEqual(protected_cells(census, "t", (0, 1, 1)), [])
        self.assertEqual(protected_cells(census, "t", (1, 1, 1)), [])
        self.assertEqual(protected_cells(census, "t", (2, 1, 1)), [("l0", 1)])
        self.assertEqual(protected_cells(census, "t", (3, 1, 1)), [("l0", 1), ("l0", 2)])
        self.assertEqual(protected_cells(census, "t", (4, 1, 1)), [("top", 0), ("l0", 1), ("l0", 2), ("l1", 0)])
        self.assertEqual(protected_cells(census, "t", (5, 0, 0)), [("top", 0), ("l0", 1), ("l0", 2), ("l1", 0), ("l1", 1)])
        self.assertEqual(protected_cells(census, "t", (8, 0, 0)),
                         [("top", 0), ("top", 1), ("top", 2), ("l0", 1), ("l0", 2), ("l1", 0), ("l1", 1), ("l1", 2)])
        self.assertIs(type(protected_cells(census, "t", (0, 1, 1))), list)

    def test_wanted_ranges(self):
        census = row_census([0, 1, 2], [3, 4, 5])
        self.assertEqual(wanted_range(census, "t", (9, 1, 1), ("top", 1)), (4, 6))
        self.assertEqual(wanted_range(census, "t", (9, 0, 0), ("top", 1)), (5, 5))
        self.assertEqual(wanted_range(census, "t", (9, 2, 5), ("l1", 0)), (1, 8))
        # Cut at 0 and at the total, which is 3 and 12.
        self.assertEqual(wanted_range(census, "t", (9, 1, 1), ("l0", 1)), (0, 2))
        self.assertEqual(wanted_range(census, "t", (9, 2, 2), ("l0", 1)), (0, 3))
        self.assertEqual(wanted_range(census, "t", (9, 2, 3), ("l0", 1)), (0, 3))
        self.assertEqual(wanted_range(census, "t", (9, 4, 7), ("l1", 1)), (0, 11))
        self.assertEqual(wanted_range(census, "t", (9, 3, 8), ("l1", 1)), (1, 12))
        self.assertEqual(wanted_range(census, "t", (9, 3, 9), ("l1", 1)), (1, 12))
        self.assertIs(type(wanted_range(census, "t", (9, 3, 9), ("l1", 1))), tuple)


class ExposedTest(unittest.TestCase):
    def test_by_hand(self):
        census = row_census([2, 8], [7, 9])
        rule = (3, 2, 3)
        # Only (l0, 0) is protected, with the wanted range 0 to 5.
        self.assertEqual(exposed_cells(census, "t", rule, []), [("l0", 0)])
        self.assertEqual(exposed_cells(census, "t", rule, [("l0", 0)]), [("l0", 0)])
        self.assertEqual(exposed_cells(census, "t", rule, [("l0", 0), ("l0", 1)]), [("l0", 0)])
        square = [("l0", 0), ("l0", 1), ("l1", 0), ("l1", 1)]
        self.assertEqual(exposed_cells(census, "t", rule, square), [])
        self.assertIs(is_safe(census, "t", rule, square), True)
        self.assertIs(is_safe(census, "t", rule, square[:3]), False)
        rows = [("top", 0), ("top", 1), ("l0", 0), ("l0", 1)]
        self.assertIs(is_safe(census, "t", rule, rows), True)
        self.assertIs(is_safe(census, "t", rule, square[1:]), False)
        # With 9 up the count can go to 9 only, but the wanted range goes to the total, 10.
        self.assertEqual(exposed_cells(census, "t", (3, 2, 9), square), [("l0", 0)])
        self.assertEqual(exposed_cells(census, "t", (3, 2, 9), cells_of(census.plan, "t")), [])
        self.assertEqual(exposed_cells(census, "t", (3, 2, 7), square), [])
        self.assertEqual(exposed_cells(census, "t", (3, 2, 8), square), [("l0", 0)])

    def test_one_end_alone_exposes(self):
        census = row_census([2, 0], [0, 5])
        square = [("l0", 0), ("l0", 1), ("l1", 0), ("l1", 1)]
        # (l0, 0) can go down to 0 and not up, as nobody is in (l0, 1).
        self.assertEqual(exposed_cells(census, "t", (3, 2, 0), square), [("top", 0)])
        square = [("top", 0), ("top", 1)] + square
        self.assertEqual(exposed_cells(census, "t", (3, 2, 0), square), [])
        self.assertEqual(exposed_cells(census, "t", (3, 0, 2), square), [])
        self.assertEqual(exposed_cells(census, "t", (3, 2, 2), square), [])
        self.assertEqual(exposed_cells(census, "t", (3, 0, 2), square[2:]), [("top", 0)])

    def test_hidden_cells_that_need_nothing(self):
        census = row_census([2, 8], [7, 9])
        self.assertEqual(exposed_cells(census, "t", (3, 0, 0), [("l0", 0)]), [])
        self.assertEqual(exposed_cells(census, "t", (3, 0, 0), []), [("l0", 0)])

    def test_no_protected_cells(self):
        census = row_census([2, 8], [7, 9])
        for pattern in ([], [("l0", 0)], cells_of(census.plan, "t")):
            self.assertEqual(exposed_cells(census, "t", (1, 9, 9), pattern), [])
            self.assertIs(is_safe(census, "t", (0, 9, 9), pattern), True)

    def check_by_trying(self, census, generator, tables):
        counts = counts_of(census, "t")
        totals = totals_of(census)
        cells = list(counts)
        for rule in RULES:
            self.assertIs(is_safe(census, "t", rule, cells), True)
            for share in (0.4, 0.7, 0.9):
                pattern = [cell for cell in cells if generator.random() < share or 1 <= counts[cell] < rule[0]]
                if generator.random() < 0.2 and pattern:
                    pattern.remove(generator.choice(pattern))
                exposed = exposed_cells(census, "t", rule, pattern)
                self.assertEqual(exposed, samples.tried_exposed(tables, counts, totals, rule, pattern))
                self.assertIs(is_safe(census, "t", rule, pattern), exposed == [])
                larger = [cell for cell in cells if cell in pattern or generator.random() < 0.5]
                self.assertLessEqual(set(exposed_cells(census, "t", rule, larger)), set(exposed))

    def test_against_all_counts(self):
        generator = random.Random(71)
        for plan in (samples.triple_plan(), samples.flat_plan(3, 2), samples.flat_plan(1, 4)):
            for _ in range(6):
                census = samples.random_census(plan, generator, (0, 1, 1, 2))
                self.check_by_trying(census, generator, samples.all_tables(plan, "t", totals_of(census)))

    def test_other_tables_do_not_count(self):
        census = samples.land_census()
        pattern = cells_of(census.plan, "jobs")[:-2]
        rule = (5, 2, 2)
        publication = publish(census, {"jobs": pattern})
        exposed = []
        for cell in protected_cells(census, "jobs", rule):
            least, greatest = cell_range(publication, "jobs", cell)
            low, high = wanted_range(census, "jobs", rule, cell)
            if cell not in pattern or not least <= low or not high <= greatest:
                exposed.append(cell)
        self.assertEqual(exposed_cells(census, "jobs", rule, pattern), exposed)


class CostTest(unittest.TestCase):
    def test_both_sorts(self):
        census = row_census([0, 1, 2], [3, 4, 5])
        cells = cells_of(census.plan, "t")
        # The counts are 3, 5, 7, then 0, 1, 2, then 3, 4, 5; by the first rule 1 and 2 cost nothing.
        self.assertEqual(pattern_cost(census, "t", (3, 1, 1), cells, "cells"), 7)
        self.assertEqual(pattern_cost(census, "t", (3, 1, 1), cells, "persons"), 7 + 27)
        self.assertEqual(pattern_cost(census, "t", (1, 1, 1), cells, "cells"), 9)
        self.assertEqual(pattern_cost(census, "t", (1, 1, 1), cells, "persons"), 9 + 30)
        self.assertEqual(pattern_cost(census, "t", (9, 1, 1), cells, "cells"), 1)
        self.assertEqual(pattern_cost(census, "t", (9, 1, 1), cells, "persons"), 1)
        self.assertEqual(pattern_cost(census, "t", (3, 1, 1), [("l0", 0), ("l0", 1), ("l1", 2)], "persons"), 7)
        self.assertEqual(pattern_cost(census, "t", (3, 1, 1), [("l0", 1), ("l0", 2)], "persons"), 0)
        for sort in ("cells", "persons"):
            self.assertEqual(pattern_cost(census, "t", (3, 1, 1), [], sort), 0)

    def test_a_pattern_need_not_be_safe(self):
        census = row_census([2, 8], [7, 9])
        self.assertEqual(pattern_cost(census, "t", (3, 2, 2), [("l1", 1)], "persons"), 10)


class ErrorsTest(unittest.TestCase):
    def calls(self, table, pattern):
        census = samples.land_census()
        return [lambda: exposed_cells(census, table, (3, 1, 1), pattern), lambda: is_safe(census, table, (3, 1, 1), pattern),
                lambda: pattern_cost(census, table, (3, 1, 1), pattern, "cells"),
                lambda: pattern_cost(census, table, (3, 1, 1), pattern, "persons")]

    def test_patterns(self):
        for pattern in ([("land", 1), ("land", 0)], [("land", 0), ("land", 0)], [("hill", 0), ("south", 0)],
                        [("land", 4)], [("land", -1)], [("moon", 0)], [("land", 0), ("moon", 0)], [("land", 0), ("land", 9)]):
            for call in self.calls("people", pattern):
                with self.assertRaises(InvalidPattern):
                    call()
        for call in self.calls("jobs", [("land", 2)]):
            with self.assertRaises(InvalidPattern):
                call()

    def test_unknown_tables_come_first(self):
        census = samples.land_census()
        for table in ("age", "people1", ""):
            calls = self.calls(table, []) + self.calls(table, [("moon", 0)])
            calls += [lambda: protected_cells(census, table, (3, 1, 1)),
                      lambda: wanted_range(census, table, (3, 1, 1), ("moon", 0))]
            for call in calls:
                with self.assertRaises(UnknownName) as caught:
                    call()
                self.assertEqual(caught.exception.name, table)

    def test_nothing_is_modified(self):
        census = samples.land_census()
        pattern = cells_of(census.plan, "people")
        text = census_text(census)
        for call in self.calls("people", pattern):
            self.assertEqual(call(), call())
        protected_cells(census, "people", (3, 1, 1)).clear()
        exposed_cells(census, "people", (9, 9, 9), []).clear()
        self.assertEqual(pattern, cells_of(census.plan, "people"))
        self.assertEqual(census_text(census), text)

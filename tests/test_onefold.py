import random
import unittest

import samples
from cellguard.census import Census
from cellguard.counting import cells_of, counts_of, totals_of
from cellguard.errors import InvalidPattern, UnknownName
from cellguard.groups import group_range
from cellguard.onefold import exposed_to_one, tight_to_one
from cellguard.publication import publish
from cellguard.rules import protected_cells, wanted_range

RULES = ((2, 1, 1), (3, 1, 2), (3, 2, 0), (4, 0, 3), (3, 5, 5))


def tried_ends(tables, known, cell):
    """The range of a cell for somebody who knows one person in a cell, over all tables that are possible."""
    return samples.tried_range([counts for counts in tables if counts[known] >= 1], cell)


def tried_pairs(tables, plan, counts, totals, rule, pattern):
    """The tuples of exposed_to_one, by the words of point 46, and how many wanted ranges were cut."""
    threshold, down, up = rule
    agreeing = samples.agreeing_tables(tables, counts, pattern)
    pairs = []
    cut = 0
    for cell, count in counts.items():
        if not 1 <= count < threshold:
            continue
        wanted = (max(0, count - down), min(totals[cell[0]], count + up))
        for known in counts:
            if counts[known] < 1 or not plan.areas.is_leaf(known[0]):
                continue
            widest = tried_ends(tables, known, cell)
            part = (max(wanted[0], widest[0]), min(wanted[1], widest[1]))
            cut += part != wanted
            least, greatest = tried_ends(agreeing, known, cell)
            if cell not in pattern or least > part[0] or greatest < part[1]:
                pairs.append((cell, known))
    return pairs, cut


class ExposedToOneTest(unittest.TestCase):
    def test_by_hand(self):
        # One child and five adults in l0, four and five in l1; only the one child is protected.
        census = samples.census_of_rows(samples.flat_plan(2, 2), {"l0": [1, 5], "l1": [4, 5]})
        cells = cells_of(census.plan, "t")
        square = cells[2:]
        self.assertEqual(exposed_to_one(census, "t", (2, 1, 1), cells), [])
        self.assertEqual(exposed_to_one(census, "t", (2, 1, 1), square), [])
        # Without a hidden cell everybody sees it, also those who are elsewhere.
        everybody = [(("l0", 0), known) for known in square]
        self.assertEqual(exposed_to_one(census, "t", (2, 1, 1), []), everybody)
        self.assertEqual(exposed_to_one(census, "t", (2, 1, 1), [("l0", 1)]), everybody)
        # Hidden alone it is seen, too; who is the one child wants to know only whether there is another one.
        self.assertEqual(exposed_to_one(census, "t", (2, 1, 1), [("l0", 0)]), everybody)
        self.assertEqual(exposed_to_one(census, "t", (2, 1, 0), [("l0", 0)]), everybody[1:])

    def test_somebody_who_knows_too_much(self):
        # In the square of ones the counts can move by one person only. Who is in l1 closes one of the two
        # ways. Who is in l0 does so, too, but would do so with all cells hidden: l0 has two persons.
        census = samples.census_of_rows(samples.flat_plan(3, 2), {"l0": [1, 1], "l1": [1, 1], "l2": [3, 3]})
        square = [("l0", 0), ("l0", 1), ("l1", 0), ("l1", 1)]
        self.assertEqual(exposed_to_one(census, "t", (2, 1, 1), square),
                         [(cell, known) for cell in square for known in square if cell[0] != known[0]])

    def test_pairs_against_all_tables(self):
        generator = random.Random(201)
        found = cut = 0
        for plan in (samples.triple_plan(), samples.flat_plan(3, 2), samples.flat_plan(2, 3), samples.flat_plan(4, 2)):
            for _ in range(12):
                census = samples.random_census(plan, generator, (0, 0, 1, 1, 1, 2))
                counts, totals = counts_of(census, "t"), totals_of(census)
                tables = samples.all_tables(plan, "t", totals)
                for rule in generator.sample(RULES, 3):
                    for share in (0, 0.6, 0.8, 0.9, 1):
                        pattern = [cell for cell in counts if generator.random() < share or
                                   (share > 0.7 and 1 <= counts[cell] < rule[0])]
                        pairs, cuts = tried_pairs(tables, plan, counts, totals, rule, pattern)
                        self.assertEqual(exposed_to_one(census, "t", rule, pattern), pairs)
                        found += pattern != [] and 0 < len(pairs)
                        cut += cuts
        self.assertGreater(found, 50)
        self.assertGreater(cut, 50)

    def test_pairs_against_ranges_for_groups(self):
        census = samples.land_census()
        rule = (3, 1, 1)
        cells = cells_of(census.plan, "people")
        records = {}
        for (area, values), _ in census.records():
            records[(area, census.plan.class_of("people", values))] = (area, values)
        for pattern in (cells, cells[4:], [cell for cell in cells if cell != ("hill", 3)], cells[::2]):
            publication = publish(census, {"people": pattern})
            everything = publish(census, {"people": cells})
            wanted_pairs = []
            for cell in protected_cells(census, "people", rule):
                for known in cells:
                    if known not in records:
                        continue
                    low, high = wanted_range(census, "people", rule, cell)
                    widest = group_range(everything, "people", [records[known]], cell)
                    least, greatest = group_range(publication, "people", [records[known]], cell)
                    if cell not in pattern or least > max(low, widest[0]) or greatest < min(high, widest[1]):
                        wanted_pairs.append((cell, known))
            self.assertEqual(exposed_to_one(census, "people", rule, pattern), wanted_pairs)

    def test_a_single_area(self):
        plan = samples.Plan([("top", None)], [("one", ["a", "b", "c"])], [("t", [("one", [["a"], ["b"], ["c"]])])])
        census = samples.census_of_rows(plan, {"top": [1, 2, 0]})
        counts, totals = counts_of(census, "t"), totals_of(census)
        tables = samples.all_tables(plan, "t", totals)
        cells = list(counts)
        for pattern in ([], cells[:1], cells[:2], cells[1:], cells):
            for rule in RULES:
                pairs, _ = tried_pairs(tables, plan, counts, totals, rule, pattern)
                self.assertEqual(exposed_to_one(census, "t", rule, pattern), pairs)

    def test_nothing_is_protected(self):
        census = samples.census_of_rows(samples.flat_plan(2, 2), {"l0": [5, 5], "l1": [0, 7]})
        for pattern in ([], cells_of(census.plan, "t")):
            self.assertEqual(exposed_to_one(census, "t", (5, 9, 9), pattern), [])
        self.assertEqual(tight_to_one(census, "t", (5, 9, 9)), [])
        self.assertEqual(tight_to_one(census, "t", (0, 9, 9)), [])
        empty = Census(samples.land_plan(), [])
        self.assertEqual(exposed_to_one(empty, "people", (5, 1, 1), []), [])
        self.assertEqual(tight_to_one(empty, "people", (5, 1, 1)), [])

    def test_errors_in_their_order(self):
        census = samples.land_census()
        cells = cells_of(census.plan, "jobs")
        for table in ("age", "zoo"):
            for pattern in ([], [("moon", 0)], list(reversed(cells))):
                with self.assertRaises(UnknownName) as caught:
                    exposed_to_one(census, table, (3, 1, 1), pattern)
                self.assertEqual(caught.exception.name, table)
            with self.assertRaises(UnknownName):
                tight_to_one(census, table, (3, 1, 1))
        for pattern in ([cells[1], cells[0]], [cells[0], cells[0]], [("land", 2)], [("moon", 0)], [("land", -1)]):
            with self.assertRaises(InvalidPattern):
                exposed_to_one(census, "jobs", (3, 1, 1), pattern)

    def test_arguments_and_results(self):
        census = samples.land_census()
        before = census.records()
        pattern = cells_of(census.plan, "people")[::2]
        copy = list(pattern)
        pairs = exposed_to_one(census, "people", (3, 1, 1), pattern)
        self.assertIs(type(pairs), list)
        self.assertTrue(all(type(pair) is tuple and len(pair) == 2 for pair in pairs))
        pairs.clear()
        self.assertNotEqual(exposed_to_one(census, "people", (3, 1, 1), pattern), [])
        self.assertEqual((pattern, census.records()), (copy, before))
        self.assertEqual(tight_to_one(census, "people", (3, 1, 1)), tight_to_one(census, "people", (3, 1, 1)))
        self.assertEqual(census.records(), before)


class TightToOneTest(unittest.TestCase):
    def assert_tight(self, census, rule, pattern, tables):
        counts, totals = counts_of(census, "t"), totals_of(census)
        self.assertIs(type(pattern), list)
        self.assertEqual(pattern, [cell for cell in counts if cell in pattern])
        self.assertEqual(tried_pairs(tables, census.plan, counts, totals, rule, pattern)[0], [])
        protected = protected_cells(census, "t", rule)
        self.assertLessEqual(set(protected), set(pattern))
        for cell in pattern:
            if cell not in protected:
                rest = [other for other in pattern if other != cell]
                self.assertNotEqual(tried_pairs(tables, census.plan, counts, totals, rule, rest)[0], [])

    def test_against_all_tables(self):
        generator = random.Random(202)
        sizes = set()
        for plan in (samples.triple_plan(), samples.flat_plan(3, 2), samples.flat_plan(2, 3)):
            for _ in range(10):
                census = samples.random_census(plan, generator, (0, 1, 1, 2, 3))
                tables = samples.all_tables(plan, "t", totals_of(census))
                for rule in generator.sample(RULES, 2):
                    pattern = tight_to_one(census, "t", rule)
                    sizes.add(len(pattern))
                    self.assert_tight(census, rule, pattern, tables)
        self.assertGreater(len(sizes), 4)

    def test_where_more_is_hidden_than_for_everybody(self):
        # A square is safe, but each person in it closes a way.
        census = samples.census_of_rows(samples.flat_plan(3, 2), {"l0": [1, 3], "l1": [1, 3], "l2": [3, 3]})
        pattern = tight_to_one(census, "t", (2, 1, 1))
        self.assertEqual(exposed_to_one(census, "t", (2, 1, 1), pattern), [])
        self.assert_tight(census, (2, 1, 1), pattern, samples.all_tables(census.plan, "t", totals_of(census)))

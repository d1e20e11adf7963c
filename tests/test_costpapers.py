import random
import unittest

import samples
from cellguard.costpapers import check_cost, paper_size
from cellguard.counting import cells_of, counts_of, totals_of
from cellguard.errors import UnknownName
from cellguard.linking import arc_of, network_of
from cellguard.publication import publish
from test_leastcost import all_safe_patterns

RULE = (2, 1, 4)
COST = ("cost",)


def table_census():
    """Only (l0, 0) is protected, with the wanted range 0 to 5. Nodes: l0 0, l1 1, the root 2 and 3, end 4."""
    return samples.census_of_rows(samples.flat_plan(2, 2), {"l0": [1, 8], "l1": [7, 9]})


class CheckCostTest(unittest.TestCase):
    def check(self, bound, paper, sort="cells"):
        found = check_cost(table_census(), "t", RULE, sort, bound, paper)
        self.assertIs(type(found), bool)
        return found

    def split_all(self, cells, last):
        """Split by some cells one after the other; each hidden one ends in the cost, all shown in the last paper."""
        paper = last
        for cell in reversed(cells):
            paper = ("split", cell, COST, paper)
        return paper

    def test_cost(self):
        self.assertTrue(self.check(0, COST))
        self.assertTrue(self.check(-3, COST))
        self.assertFalse(self.check(1, COST))

    def test_cost_of_a_state(self):
        # One cell is hidden on the first side, and none on the second one.
        self.assertTrue(self.check(0, ("split", ("l1", 0), COST, COST)))
        self.assertFalse(self.check(1, ("split", ("l1", 0), COST, COST)))
        short = ("short", ("l0", 0), 1, [2])
        # With both other cells of the column shown, the node 2 shows 8 - 7 = 1 for (l0, 0).
        both = ("split", ("top", 0), COST, ("split", ("l1", 0), COST, short))
        self.assertTrue(self.check(1, both))
        self.assertFalse(self.check(2, both))
        self.assertTrue(self.check(8, both, "persons"))
        self.assertFalse(self.check(9, both, "persons"))
        # (top, 0) costs 9, (l1, 0) costs 8 and (l1, 1) costs 10.
        dear = ("split", ("top", 0), COST, ("split", ("l1", 1), ("split", ("l1", 0), COST, short),
                                            ("split", ("l1", 0), COST, short)))
        self.assertTrue(self.check(8, dear, "persons"))
        self.assertFalse(self.check(9, dear, "persons"))

    def test_costs_add_up(self):
        paper = ("split", ("top", 0), ("split", ("l1", 1), COST, COST), ("split", ("l1", 0), COST, ("short", ("l0", 0), -1, [0, 3])))
        self.assertFalse(self.check(1, paper))
        shown = ("split", ("l0", 1), COST, ("short", ("l0", 0), -1, [0]))
        # Nine people live in l0, and 8 of them in the other cell: the node 0 shows 1 as the least.
        self.assertTrue(self.check(1, shown))
        self.assertFalse(self.check(2, shown))
        twice = ("split", ("l0", 1), ("split", ("top", 0), COST, ("split", ("l1", 0), COST, ("short", ("l0", 0), 1, [2]))),
                 ("short", ("l0", 0), -1, [0]))
        self.assertTrue(self.check(2, twice))
        self.assertFalse(self.check(3, twice))
        self.assertTrue(self.check(17, twice, "persons"))
        self.assertFalse(self.check(18, twice, "persons"))

    def test_short(self):
        # Nothing is short at the beginning, and no bound is beyond the wanted range.
        for way, members in ((1, [2]), (-1, [0]), (1, [2, 4]), (-1, [0, 3])):
            self.assertFalse(self.check(0, ("short", ("l0", 0), way, members)))
        column = [("top", 0), ("l1", 0)]
        self.assertTrue(self.check(1, self.split_all(column, ("short", ("l0", 0), 1, [2]))))
        # One end alone does not make the other one short, and the arc must cross the set as it must.
        self.assertFalse(self.check(1, self.split_all(column, ("short", ("l0", 0), -1, [2]))))
        self.assertFalse(self.check(1, self.split_all(column, ("short", ("l0", 0), 1, [0]))))
        self.assertFalse(self.check(1, self.split_all(column, ("short", ("l0", 0), 1, [0, 2]))))
        self.assertFalse(self.check(1, self.split_all(column, ("short", ("l0", 0), 1, []))))
        self.assertFalse(self.check(1, self.split_all(column[:1], ("short", ("l0", 0), 1, [2]))))
        self.assertFalse(self.check(1, self.split_all(column[1:], ("short", ("l0", 0), 1, [2]))))

    def test_hidden_cells_are_no_shown_ones(self):
        # With (l1, 0) hidden, the node 2 shows 8 and not 1.
        short = ("short", ("l0", 0), 1, [2])
        self.assertTrue(self.check(1, ("split", ("top", 0), COST, ("split", ("l1", 0), COST, short))))
        self.assertFalse(self.check(1, ("split", ("top", 0), COST, ("split", ("l1", 0), short, short))))
        self.assertFalse(self.check(1, ("split", ("top", 0), short, ("split", ("l1", 0), COST, short))))

    def test_short_at_the_very_end_of_the_wanted_range(self):
        # The root has 8 in the class 0, so with (l1, 0) hidden and (top, 0) shown (l0, 0) can go up to 8.
        census = table_census()
        paper = ("split", ("top", 0), COST, ("short", ("l0", 0), 1, [2]))
        for up, right in ((6, False), (7, False), (8, True), (20, True)):
            self.assertIs(check_cost(census, "t", (2, 1, up), "cells", 1, paper), right)
        # And down to 9 - 8 = 1 with (l0, 1) shown.
        paper = ("split", ("l0", 1), COST, ("short", ("l0", 0), -1, [0]))
        for down, right in ((0, False), (1, True), (5, True)):
            self.assertIs(check_cost(census, "t", (2, down, 4), "cells", 1, paper), right)

    def test_short_speaks_of_protected_cells(self):
        column = [("top", 0), ("l0", 1)]
        for cell in (("l1", 0), ("l1", 1), ("l0", 1), ("top", 0), ("moon", 0), ("l0", 2), ("l0", -1), ("l0", True), ["l0", 0],
                     ("l0",), ("l0", 0, 0), "l0", None, 0, ("l0", [0])):
            self.assertFalse(self.check(1, self.split_all(column, ("short", cell, 1, [2]))), cell)

    def test_members_of_another_form(self):
        column = [("top", 0), ("l1", 0)]
        # The end and the node 3 take nothing away, for nothing leads from them into the class 0.
        self.assertTrue(self.check(1, self.split_all(column, ("short", ("l0", 0), 1, [2]))))
        for members in ([2, 2], [3, 2], [-1, 2], [2, 5], [2, 99], (2,), {2: True}, None, 2, "2", ["2"], [None], [True, 2], [[2]]):
            self.assertFalse(self.check(1, self.split_all(column, ("short", ("l0", 0), 1, members))), members)
        for way in (0, 2, None, "1", True, [1]):
            self.assertFalse(self.check(1, self.split_all(column, ("short", ("l0", 0), way, [2]))), way)

    def test_split_speaks_of_undecided_cells(self):
        self.assertTrue(self.check(0, ("split", ("l1", 0), COST, COST)))
        self.assertTrue(self.check(0, ("split", ("l1", 0), ("split", ("l1", 1), COST, COST), COST)))
        # Protected, decided already on this way, or no cell.
        self.assertFalse(self.check(0, ("split", ("l0", 0), COST, COST)))
        self.assertFalse(self.check(0, ("split", ("l1", 0), ("split", ("l1", 0), COST, COST), COST)))
        self.assertFalse(self.check(0, ("split", ("l1", 0), COST, ("split", ("l1", 0), COST, COST))))
        for cell in (("moon", 0), ("l1", 2), ("l1", -1), ("l1", True), ["l1", 0], ("l1",), ("l1", 0, 0), None, 0, "l1", ("l1", [0])):
            self.assertFalse(self.check(0, ("split", cell, COST, COST)), cell)
        # On two sides the same cell may be split.
        self.assertTrue(self.check(0, ("split", ("l1", 0), ("split", ("l1", 1), COST, COST), ("split", ("l1", 1), COST, COST))))

    def test_both_sides_must_be_right(self):
        wrong = ("short", ("l0", 0), 1, [2])
        self.assertFalse(self.check(0, ("split", ("l1", 0), wrong, COST)))
        self.assertFalse(self.check(0, ("split", ("l1", 0), COST, wrong)))
        self.assertFalse(self.check(0, ("split", ("l1", 0), COST, None)))
        self.assertFalse(self.check(0, ("split", ("l1", 0), (), COST)))

    def test_papers_of_another_form(self):
        for paper in (None, 0, "cost", [], ["cost"], (), ("costs",), ("cost", 1), ("cost", None), ("COST",), (None,), (1,),
                      (["cost"],), ("short",), ("short", ("l0", 0)), ("short", ("l0", 0), 1), ("short", ("l0", 0), 1, [2], 1),
                      ("split",), ("split", ("l1", 0)), ("split", ("l1", 0), COST), ("split", ("l1", 0), COST, COST, COST),
                      ["split", ("l1", 0), COST, COST], (COST,), ("join", ("l1", 0), COST, COST)):
            self.assertFalse(self.check(-5, paper), paper)

    def test_deep_wrong_papers(self):
        paper = COST
        for _ in range(5000):
            paper = ("split", ("l1", 0), COST, paper)
        self.assertFalse(self.check(0, paper))

    def test_unknown_tables_come_first(self):
        for table in ("one", "t1"):
            for paper in (COST, None, ("split",)):
                with self.assertRaises(UnknownName) as caught:
                    check_cost(table_census(), table, RULE, "cells", 0, paper)
                self.assertEqual(caught.exception.name, table)

    def test_right_papers_hold_for_all_patterns(self):
        generator = random.Random(111)
        plan = samples.flat_plan(2, 2)
        right = 0
        for _ in range(12):
            census = samples.random_census(plan, generator, (0, 1, 1, 2, 3))
            rule = generator.choice(((2, 1, 1), (2, 1, 2), (3, 2, 1)))
            counts = counts_of(census, "t")
            safe = all_safe_patterns(census, rule)
            for sort in ("cells", "persons"):
                least = min(samples.tried_cost(counts, rule, pattern, sort) for pattern in safe)
                for _ in range(12):
                    paper = self.random_paper(generator, census, rule, {})
                    bound = generator.randrange(0, least + 3)
                    found = check_cost(census, "t", rule, sort, bound, paper)
                    self.assertIs(found, self.is_right(census, counts, rule, sort, bound, paper, {}))
                    if found:
                        right += bound > 0
                        self.assertLessEqual(bound, least)
        self.assertGreater(right, 10)

    def random_paper(self, generator, census, rule, decided):
        """A paper that is split at random, and short where some set shows it."""
        cells = cells_of(census.plan, "t")
        counts = counts_of(census, "t")
        protected = [cell for cell in cells if 1 <= counts[cell] < rule[0]]
        undecided = [cell for cell in cells if cell not in protected and cell not in decided]
        sets = [[node for node in range(5) if bits >> node & 1] for bits in range(32)]
        for cell in protected:
            for members in generator.sample(sets, 8):
                for way in (1, -1):
                    paper = ("short", cell, way, members)
                    if self.is_right(census, counts, rule, "cells", 0, paper, decided):
                        return paper
        if not undecided or generator.random() < 0.1:
            return COST
        cell = generator.choice(undecided)
        if generator.random() < 0.6:
            return ("split", cell, COST, self.random_paper(generator, census, rule, {**decided, cell: False}))
        return ("split", cell, self.random_paper(generator, census, rule, {**decided, cell: True}),
                self.random_paper(generator, census, rule, {**decided, cell: False}))

    def is_right(self, census, counts, rule, sort, bound, paper, decided):
        """Whether a paper is right, by the words of point 33."""
        if paper[0] == "split":
            _, cell, first, second = paper
            if cell in decided:
                return False
            return (self.is_right(census, counts, rule, sort, bound, first, {**decided, cell: True})
                    and self.is_right(census, counts, rule, sort, bound, second, {**decided, cell: False}))
        if paper[0] == "cost":
            return samples.tried_cost(counts, rule, [cell for cell in decided if decided[cell]], sort) >= bound
        _, cell, way, members = paper
        publication = publish(census, {"t": [other for other in counts if decided.get(other, True)]})
        network = network_of(publication, "t")
        shown = samples.shown_bound(network.arcs(), arc_of(census.plan, "t", cell), way, members)
        if shown is None:
            return False
        if way == 1:
            return shown < min(totals_of(census)[cell[0]], counts[cell] + rule[2])
        return shown > max(0, counts[cell] - rule[1])


class PaperSizeTest(unittest.TestCase):
    def test_by_hand(self):
        end = ("cost",)
        short = ("short", ("l0", 0), 1, [1])
        self.assertEqual(paper_size(end), 1)
        self.assertEqual(paper_size(short), 1)
        self.assertEqual(paper_size(("split", ("l0", 1), end, short)), 3)
        self.assertEqual(paper_size(("split", ("l0", 1), ("split", ("l0", 2), end, end), short)), 5)
        self.assertEqual(paper_size(("split", ("l0", 1), end, ("split", ("l0", 2), short, ("split", ("l1", 0), end, end)))), 7)

    def test_deep_papers(self):
        paper = ("cost",)
        for _ in range(5000):
            paper = ("split", ("l0", 1), ("cost",), paper)
        self.assertEqual(paper_size(paper), 10001)

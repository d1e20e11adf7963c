"""Rounding, groups and the office for one plan of the sizes of point 2."""

import random
import unittest

from cellguard.costpapers import check_cost
from cellguard.counting import cells_of, counts_of
from cellguard.errors import Refused
from cellguard.groups import check_group_paper, group_census, group_papers, group_range
from cellguard.hiding import tight_pattern
from cellguard.leastcost import least_pattern
from cellguard.office import Office
from cellguard.publication import agrees, publish
from cellguard.pubtext import publication_text, read_publication, report_lines
from cellguard.ranges import cell_range
from cellguard.rounding import check_rounded_paper, is_rounded, rounded_papers, rounded_range, rounded_table
from cellguard.rules import is_safe, protected_cells
from test_sizes import deep_areas, large_census, wide_areas


class RoundingSizesTest(unittest.TestCase):
    def test_rounded_tables(self):
        generator = random.Random(161)
        for areas in (wide_areas(), deep_areas()):
            census = large_census(areas, generator)
            exact = counts_of(census, "people")
            for base in (2, 5, 1000):
                counts, totals = rounded_table(census, "people", base)
                self.assertIs(is_rounded(census, "people", base, counts, totals), True)
                for cell in generator.sample(list(counts), 5):
                    told = (census.plan, "people", base, counts, totals, cell)
                    least, greatest = rounded_range(*told)
                    self.assertTrue(counts[cell] - base < least <= exact[cell] <= greatest < counts[cell] + base)
                    for paper in rounded_papers(*told):
                        self.assertIs(check_rounded_paper(*told, paper), True)


class GroupSizesTest(unittest.TestCase):
    def test_groups(self):
        generator = random.Random(162)
        for areas in (wide_areas(), deep_areas()):
            census = large_census(areas, generator)
            cells = cells_of(census.plan, "people")
            patterns = {"people": [cell for cell in cells if generator.random() < 0.8], "t0": [], "t3": cells_of(census.plan, "t3")}
            publication = publish(census, patterns)
            group = [record for record, number in generator.sample(census.records(), 30)]
            for cell in generator.sample(patterns["people"], 4):
                least, greatest = group_range(publication, "people", group, cell)
                widest = cell_range(publication, "people", cell)
                self.assertTrue(widest[0] <= least <= counts_of(census, "people")[cell] <= greatest <= widest[1])
                for paper in group_papers(publication, "people", group, cell):
                    self.assertIs(check_group_paper(publication, "people", group, cell, paper), True)
                for way, count in ((-1, least), (1, greatest)):
                    found = group_census(publication, "people", group, cell, way)
                    self.assertIs(agrees(found, publication), True)
                    self.assertTrue(all(found.number(record) >= 1 for record in group))
                    self.assertEqual(counts_of(found, "people")[cell], count)


class OfficeSizesTest(unittest.TestCase):
    def test_release_with_a_tight_pattern(self):
        generator = random.Random(163)
        for areas, rule in ((wide_areas(), (8, 5, 5)), (deep_areas(), (3, 1, 1))):
            census = large_census(areas, generator)
            rules = {table: (3, 1, 1) for table in census.plan.tables()}
            rules["people"] = rule
            office = Office(census, rules)
            pattern = tight_pattern(census, "people", rule)
            known = office.release("people", pattern)
            self.assertEqual(known.hidden("people"), pattern)
            for cell in generator.sample(pattern, 3):
                with self.assertRaises(Refused):
                    office.ask("people", cell)
            shown = next(cell for cell in cells_of(census.plan, "people") if cell not in pattern)
            self.assertEqual(office.ask("people", shown), counts_of(census, "people")[shown])
            self.assertIs(is_safe(census, "people", rule, office.known().hidden("people")), True)
            self.assertEqual(len(office.log()), 5)

    def test_texts_and_reports(self):
        census = large_census(wide_areas(), random.Random(164))
        publication = publish(census, {table: cells_of(census.plan, table)[::3] for table in census.plan.tables()})
        text = publication_text(publication)
        self.assertEqual(publication_text(read_publication(text, census.plan)), text)
        lines = report_lines(publication)
        self.assertEqual([line.split()[:3] for line in lines], [["people", "hidden", "240"]] + [[f"t{k}", "hidden", "40"] for k in range(7)])


class LeastCostSizesTest(unittest.TestCase):
    def test_many_protected_cells(self):
        # Most cells are protected, so few must be looked through, but there are many needs.
        census = large_census(wide_areas(), random.Random(165))
        rule = (5000, 1, 1)
        open_cells = len(cells_of(census.plan, "people")) - len(protected_cells(census, "people", rule))
        pattern, paper = least_pattern(census, "people", rule, most=open_cells)
        self.assertIs(is_safe(census, "people", rule, pattern), True)
        self.assertIs(check_cost(census, "people", rule, "cells", 0, paper), True)

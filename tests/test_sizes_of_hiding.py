"""Sums, rules and tight patterns for one plan of the sizes of point 2."""

import random
import unittest

from cellguard.counting import cells_of, counts_of
from cellguard.hiding import tight_pattern, tightened
from cellguard.papers import check_paper
from cellguard.publication import agrees, publish
from cellguard.ranges import cell_range, range_papers
from cellguard.rules import exposed_cells, is_safe, protected_cells, wanted_range
from cellguard.sums import check_sum_paper, sum_census, sum_papers, sum_range
from test_sizes import deep_areas, large_census, wide_areas


class SumSizesTest(unittest.TestCase):
    def check(self, areas, share, most):
        generator = random.Random(91)
        census = large_census(areas, generator)
        cells = cells_of(census.plan, "people")
        counts = counts_of(census, "people")
        publication = publish(census, {"people": [cell for cell in cells if generator.random() < share]})
        weights = {cell: generator.choice((-1, 1)) * generator.randint(1, most) for cell in cells}
        least, greatest = sum_range(publication, "people", weights)
        self.assertLess(least, greatest)
        self.assertTrue(least <= sum(counts[cell] * weight for cell, weight in weights.items()) <= greatest)
        for paper in sum_papers(publication, "people", weights):
            way, bound, potentials = paper
            self.assertEqual(bound, least if way == -1 else greatest)
            self.assertIs(check_sum_paper(publication, "people", weights, paper), True)
            self.assertIs(check_sum_paper(publication, "people", weights, (way, bound - way, potentials)), False)
            other = sum_census(publication, "people", weights, way)
            self.assertIs(agrees(other, publication), True)
            found = counts_of(other, "people")
            self.assertEqual(sum(found[cell] * weight for cell, weight in weights.items()), bound)

    def test_sums(self):
        for areas in (wide_areas(), deep_areas()):
            for share in (0.5, 1):
                self.check(areas, share, 1)
                self.check(areas, share, 10 ** 6)


class HidingSizesTest(unittest.TestCase):
    def check(self, areas, rule):
        generator = random.Random(92)
        census = large_census(areas, generator)
        cells = cells_of(census.plan, "people")
        self.assertEqual(len(cells), 720)
        protected = protected_cells(census, "people", rule)
        self.assertGreater(len(protected), 100)
        for pattern in (tight_pattern(census, "people", rule), tight_pattern(census, "people", rule, sort="persons"),
                        tightened(census, "people", rule, cells)):
            self.assertEqual(exposed_cells(census, "people", rule, pattern), [])
            others = [cell for cell in pattern if cell not in protected]
            for cell in generator.sample(others, min(6, len(others))):
                self.assertIs(is_safe(census, "people", rule, [other for other in pattern if other != cell]), False)

    def test_tight_patterns(self):
        for areas in (wide_areas(), deep_areas()):
            self.check(areas, (3, 1, 1))
            self.check(areas, (8, 5, 5))

    def test_exposed_cells(self):
        generator = random.Random(93)
        census = large_census(wide_areas(), generator)
        rule = (8, 5, 5)
        pattern = [cell for cell in cells_of(census.plan, "people") if generator.random() < 0.85]
        exposed = exposed_cells(census, "people", rule, pattern)
        protected = protected_cells(census, "people", rule)
        self.assertTrue(0 < len(exposed) < len(protected))
        self.assertLessEqual({cell for cell in protected if cell not in pattern}, set(exposed))
        publication = publish(census, {"people": pattern})
        for cell in generator.sample(protected, 15):
            least, greatest = cell_range(publication, "people", cell)
            low, high = wanted_range(census, "people", rule, cell)
            self.assertIs(cell in exposed, cell not in pattern or least > low or greatest < high)
            for paper in range_papers(publication, "people", cell):
                self.assertIs(check_paper(publication, "people", cell, paper), True)

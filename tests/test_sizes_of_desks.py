"""Equations, reasoning, bands and saved offices for one plan of the sizes of point 2."""

import random
import unittest

from cellguard.bands import band_of, banded_census, banded_range, is_safe_banded
from cellguard.counting import cells_of, counts_of, totals_of
from cellguard.desk import Desk
from cellguard.equations import equation_of, linear_cells
from cellguard.linking import network_of
from cellguard.ranges import cell_range, determined_cells
from cellguard.reasoning import check_steps, reason, useful_steps
from cellguard.rules import is_safe
from cellguard.saving import office_text, restored_office
from cellguard.swapping import disguised_cells, first_swap, swapped
from test_sizes import deep_areas, large_census, wide_areas
from test_sizes_of_services import large_publications


class DeskSizesTest(unittest.TestCase):
    def test_linear_cells(self):
        for census, publication, generator in large_publications(321):
            counts = counts_of(census, "people")
            found = linear_cells(publication, "people")
            self.assertLessEqual({entry[0] for entry in found}, set(determined_cells(publication, "people")))
            for cell, count, members in generator.sample(found, min(10, len(found))):
                terms, constant = equation_of(publication, "people", members)
                self.assertEqual((list(terms), terms[cell] * constant, count), ([cell], count, counts[cell]))

    def test_reason(self):
        for census, publication, generator in large_publications(322):
            limits, steps = reason(publication, "people")
            self.assertEqual(useful_steps(network_of(publication, "people"), limits), [])
            self.assertIs(check_steps(publication, "people", steps, limits), True)
            cells = cells_of(census.plan, "people")
            for at in generator.sample(range(len(cells)), 10):
                least, greatest = cell_range(publication, "people", cells[at])
                self.assertTrue(limits[at][0] <= least and greatest <= limits[at][1])

    def test_bands(self):
        for census, publication, generator in large_publications(323):
            pattern = publication.hidden("people")
            counts = counts_of(census, "people")
            for base in (2, 10, 5000):
                # The band of a single person goes up to 1 with the base 2, and should go up to 2.
                if base == 2:
                    self.assertIs(is_safe_banded(census, "people", (3, 1, 1), pattern, base), False)
                for cell in generator.sample(pattern, 4):
                    least, greatest = banded_range(census, "people", pattern, base, cell)
                    widest = cell_range(publication, "people", cell)
                    band = band_of(counts[cell], base)
                    self.assertTrue(max(widest[0], band[0]) <= least <= counts[cell] <= greatest <= min(widest[1], band[1]))
                    for way, count in ((-1, least), (1, greatest)):
                        found = banded_census(census, "people", pattern, base, cell, way)
                        self.assertEqual(totals_of(found), totals_of(census))
                        self.assertEqual(counts_of(found, "people")[cell], count)

    def test_restored_offices(self):
        generator = random.Random(324)
        for areas in (wide_areas(), deep_areas()):
            census = large_census(areas, generator)
            rules = {table: (3, 1, 1) for table in census.plan.tables()}
            desk = Desk(census, rules)
            tables = census.plan.tables()
            self.assertRegex(" ".join(desk.run([f"tight {table}" for table in tables])), "^(hidden [0-9]+ ?){8}$")
            for _ in range(20):
                area, number = generator.choice(cells_of(census.plan, "people"))
                desk.run([f"ask people {area} {number}", f"range people {area} {number}"])
            text = office_text(desk.office)
            again = restored_office(text, census, rules)
            self.assertEqual(office_text(again), text)
            for table in tables:
                self.assertIs(is_safe(census, table, rules[table], again.known().hidden(table)), True)

    def test_swaps(self):
        generator = random.Random(325)
        census = large_census(wide_areas(), generator)
        swaps = []
        for cell in cells_of(census.plan, "people"):
            if census.plan.areas.is_leaf(cell[0]) and len(swaps) < 5:
                swap = first_swap(swapped(census, swaps), "people", cell)
                if swap is not None:
                    swaps.append(swap)
        found = swapped(census, swaps)
        self.assertEqual(totals_of(found), totals_of(census))
        self.assertNotEqual(disguised_cells(census, "people", (10 ** 6, 1, 1), swaps), [])

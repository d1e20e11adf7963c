"""Services, dossiers, listings and coarser tables for one plan of the sizes of point 2."""

import random
import unittest
from itertools import islice

from cellguard.coarser import derived_ranges, finest_grouping, suits
from cellguard.counting import cells_of, counts_fit, counts_of
from cellguard.dossiers import check_dossier, dossier, dossier_text, read_dossier
from cellguard.errors import Refused, TooLarge
from cellguard.listing import all_counts, number_of_counts
from cellguard.onefold import exposed_to_one, tight_to_one
from cellguard.publication import publish
from cellguard.ranges import cell_range
from cellguard.rules import protected_cells
from cellguard.service import Service
from cellguard.sums import sum_range
from test_sizes import deep_areas, large_census, wide_areas


def large_publications(seed):
    """Publications of wide and deep trees with many hidden cells, each with its census."""
    generator = random.Random(seed)
    for areas in (wide_areas(), deep_areas()):
        census = large_census(areas, generator)
        cells = cells_of(census.plan, "people")
        for share in (0.4, 0.9, 1):
            yield census, publish(census, {"people": [cell for cell in cells if generator.random() < share], "t0": []}), generator


class ServiceSizesTest(unittest.TestCase):
    def test_dossiers(self):
        for census, publication, generator in large_publications(251):
            entries = dossier(publication)
            self.assertEqual(len(entries), 2 * len(publication.hidden("people")))
            self.assertIs(check_dossier(publication, entries), True)
            self.assertEqual(read_dossier(dossier_text(entries), census.plan), entries)
            for at in generator.sample(range(0, len(entries), 2), 4):
                bounds = (entries[at][2][1], entries[at + 1][2][1])
                self.assertEqual(bounds, cell_range(publication, "people", entries[at][1]))

    def test_guarded_cells(self):
        for census, publication, generator in large_publications(252):
            for width in (1, 40):
                service = Service(census, publication, width=width)
                guarded = service.guarded()
                for cell in generator.sample(publication.hidden("people"), 10):
                    least, greatest = cell_range(publication, "people", cell)
                    self.assertIs(("people", cell) in guarded, greatest - least >= width)
                open_cells = [cell for cell in publication.hidden("people") if ("people", cell) not in guarded]
                for cell in open_cells[:1]:
                    try:
                        self.assertEqual(service.ask("people", cell), counts_of(census, "people")[cell])
                    except Refused:
                        self.assertIs(service.is_harmless("people", cell), False)

    def test_the_first_counts(self):
        for census, publication, generator in large_publications(253):
            cells = cells_of(census.plan, "people")
            found = list(islice(all_counts(publication, "people"), 100))
            rows = [list(counts.values()) for counts in found]
            self.assertEqual(rows, sorted(rows))
            self.assertEqual(len(set(map(tuple, rows))), 100)
            shown = publication.cells("people")
            for counts in found:
                self.assertIs(counts_fit(census.plan, "people", counts, publication.totals()), True)
                self.assertTrue(all(shown[cell] in (None, counts[cell]) for cell in cells))
            with self.assertRaises(TooLarge):
                number_of_counts(publication, "people", most=500)

    def test_derived_ranges(self):
        merging = [[7], [0, 3, 9], [11, 1], [2, 4, 5, 6], [8, 10]]
        for census, publication, generator in large_publications(254):
            found = derived_ranges(publication, "people", merging)
            self.assertEqual(len(found), 300)
            for area, at in generator.sample(list(found), 6):
                self.assertEqual(found[(area, at)], sum_range(publication, "people", {(area, number): 1 for number in merging[at]}))

    def test_finest_groupings(self):
        generator = random.Random(255)
        for areas in (wide_areas(), deep_areas()):
            census = large_census(areas, generator)
            for attribute, values in census.plan.attributes():
                for threshold in (1, 2, 5, 150):
                    grouping = finest_grouping(census, attribute, threshold)
                    if grouping is not None:
                        self.assertEqual([value for group in grouping for value in group], values)
                        self.assertIs(suits(census, attribute, grouping, threshold), True)

    def test_patterns_for_one(self):
        generator = random.Random(256)
        for areas in (wide_areas(), deep_areas()):
            census = large_census(areas, generator)
            rule = (4, 2, 2)
            pattern = tight_to_one(census, "people", rule)
            self.assertEqual(exposed_to_one(census, "people", rule, pattern), [])
            protected = protected_cells(census, "people", rule)
            for cell in generator.sample([cell for cell in pattern if cell not in protected], 5):
                rest = [other for other in pattern if other != cell]
                self.assertNotEqual(exposed_to_one(census, "people", rule, rest), [])

"""What the document promises over the whole program: what one part writes or says, the others read and say."""

import random
import unittest

import samples
from cellguard.bands import banded_range
from cellguard.census import census_text, read_census, same_census
from cellguard.coarser import derived_ranges
from cellguard.counting import cells_of, counts_fit, counts_of, totals_of
from cellguard.desk import Desk
from cellguard.dossiers import check_dossier, dossier, dossier_text, read_dossier
from cellguard.equations import equation_of, equation_text, linear_cells
from cellguard.errors import InvalidPublication, UnknownName
from cellguard.groups import check_group_paper, group_census, group_network, group_papers, group_range
from cellguard.linking import census_from, is_possible, network_of
from cellguard.listing import all_counts, number_of_counts
from cellguard.papers import check_paper
from cellguard.plan import plan_text, read_plan
from cellguard.publication import Publication, agrees, publish
from cellguard.pubtext import publication_text, read_publication, report_lines
from cellguard.ranges import cell_range, determined_cells, extreme_census, range_papers
from cellguard.reasoning import check_steps, first_limits, reason
from cellguard.rules import is_safe, protected_cells, wanted_range
from cellguard.saving import office_text, restored_office
from cellguard.service import Service
from cellguard.sums import check_sum_paper, sum_census, sum_papers, sum_range

PLAN_TEXT = (
    "area land\narea north in land\narea south in land\narea hill in north\narea dale in north\narea coast in south\n"
    "area isle in south\nattribute age child adult old\nattribute sex f m\nattribute work no yes\n"
    "table people age:child,adult+old sex\ntable jobs work:yes,no\n"
)

# What the interface says raises UnknownName for a table that is not published, and then InvalidPublication.
BOTH_ERRORS = (
    lambda publication, table: cell_range(publication, table, ("hill", 0)),
    lambda publication, table: determined_cells(publication, table),
    lambda publication, table: extreme_census(publication, table, ("hill", 0), 1),
    lambda publication, table: range_papers(publication, table, ("hill", 0)),
    lambda publication, table: sum_range(publication, table, {("hill", 0): 1}),
    lambda publication, table: sum_census(publication, table, {("hill", 0): 1}, 1),
    lambda publication, table: sum_papers(publication, table, {("hill", 0): 1}),
    lambda publication, table: group_range(publication, table, [], ("hill", 0)),
    lambda publication, table: group_census(publication, table, [], ("hill", 0), 1),
    lambda publication, table: group_papers(publication, table, [], ("hill", 0)),
    lambda publication, table: list(all_counts(publication, table)),
    lambda publication, table: number_of_counts(publication, table),
    lambda publication, table: derived_ranges(publication, table, [[0], [1]]),
    lambda publication, table: linear_cells(publication, table),
    lambda publication, table: reason(publication, table),
)

# What raises UnknownName alone.
ONE_ERROR = (
    lambda publication, table: publication.cells(table),
    lambda publication, table: publication.hidden(table),
    lambda publication, table: network_of(publication, table),
    lambda publication, table: check_paper(publication, table, ("hill", 0), (1, 99, None)),
    lambda publication, table: check_sum_paper(publication, table, {("hill", 0): 1}, (1, 99, [])),
    lambda publication, table: group_network(publication, table, []),
    lambda publication, table: check_group_paper(publication, table, [], ("hill", 0), (1, 99, None)),
    lambda publication, table: equation_of(publication, table, [0]),
    lambda publication, table: equation_text(publication, table, [0]),
    lambda publication, table: first_limits(publication, table),
    lambda publication, table: check_steps(publication, table, [], []),
)


def random_census_text(generator):
    lines = []
    for leaf in ("hill", "dale", "coast", "isle"):
        for age in ("child", "adult", "old"):
            for sex in ("f", "m"):
                for work in ("no", "yes"):
                    number = generator.choice((0, 0, 1, 2, 3, 8))
                    if number > 0:
                        lines.append(f"{number} {leaf} {age} {sex} {work}\n")
    return "".join(lines)


class WholeProgramTest(unittest.TestCase):
    def run_desk(self, census, rules, generator):
        desk = Desk(census, rules, most=40)
        desk.run([generator.choice(("tight people", "least people")), generator.choice(("tight jobs", "least jobs"))])
        for _ in range(12):
            table = generator.choice(("people", "jobs"))
            area, number = generator.choice(cells_of(census.plan, table))
            desk.answer(f"{generator.choice(('ask', 'range'))} {table} {area} {number}")
        return desk

    def test_from_a_plan_to_a_restored_office(self):
        generator = random.Random(311)
        for _ in range(5):
            plan = read_plan(PLAN_TEXT)
            self.assertEqual(plan_text(plan), PLAN_TEXT)
            text = random_census_text(generator)
            census = read_census(text, plan)
            self.assertEqual(census_text(census), text)
            rules = {"people": generator.choice(((3, 1, 1), (4, 2, 3))), "jobs": (4, 1, 2)}
            desk = self.run_desk(census, rules, generator)
            known = desk.office.known()
            self.assertEqual(known.tables(), ["people", "jobs"])
            self.check_publication(census, rules, read_publication(publication_text(known), plan), desk)
            saved = office_text(desk.office)
            again = restored_office(saved, read_census(text, plan), rules)
            self.assertEqual(office_text(again), saved)
            self.assertEqual(publication_text(again.known()), publication_text(known))
            self.assertEqual(desk.answer("log"), again.log() + ["end"])

    def check_publication(self, census, rules, publication, desk):
        self.assertIs(agrees(census, publication), True)
        self.assertIs(is_possible(publication), True)
        entries = dossier(publication)
        self.assertIs(check_dossier(publication, entries), True)
        read = read_dossier(dossier_text(entries), census.plan)
        self.assertEqual(read, entries)
        self.assertIs(check_dossier(publication, read), True)
        bounds = {(table, cell, paper[0]): paper[1] for table, cell, paper in entries}
        for table in publication.tables():
            self.assertIs(is_safe(census, table, rules[table], publication.hidden(table)), True)
            for cell in protected_cells(census, table, rules[table]):
                low, high = wanted_range(census, table, rules[table], cell)
                least, greatest = cell_range(publication, table, cell)
                self.assertTrue(least <= low and high <= greatest)
                self.assertEqual((bounds[(table, cell, -1)], bounds[(table, cell, 1)]), (least, greatest))
                self.assertEqual(desk.answer(f"range {table} {cell[0]} {cell[1]}"), [f"range {least} {greatest}"])
        report = [f"{table} hidden {len(publication.hidden(table))} determined {len(determined_cells(publication, table))}"
                  for table in publication.tables()]
        self.assertEqual([line.partition(" narrowest")[0] for line in report_lines(publication)], report)

    def test_what_several_parts_say_of_the_same_cell(self):
        generator = random.Random(312)
        linear = 0
        for _ in range(12):
            plan = read_plan(PLAN_TEXT)
            census = read_census(random_census_text(generator), plan)
            share = generator.choice((0.4, 0.6, 0.9))
            publication = publish(census, {table: [cell for cell in cells_of(plan, table) if generator.random() < share]
                                           for table in ("people", "jobs")})
            for table in ("people", "jobs"):
                limits, _ = reason(publication, table)
                apart = derived_ranges(publication, table, [[number] for number in range(len(plan.classes(table)))])
                lines = {line.split()[0]: line.split() for line in report_lines(publication)}
                widths = [high - low for low, high in (cell_range(publication, table, cell) for cell in publication.hidden(table))]
                self.assertEqual(lines[table][-1], str(min(widths)) if widths else "-")
                determined = determined_cells(publication, table)
                found = [entry[0] for entry in linear_cells(publication, table)]
                self.assertLessEqual(set(found), set(determined))
                linear += len(found)
                for at, cell in enumerate(cells_of(plan, table)):
                    least, greatest = cell_range(publication, table, cell)
                    self.assertTrue(limits[at][0] <= least and greatest <= limits[at][1])
                    self.assertEqual(apart[cell], (least, greatest))
                    self.assertEqual(group_range(publication, table, [], cell), (least, greatest))
                    self.assertEqual(banded_range(census, table, publication.hidden(table), 10 ** 6, cell), (least, greatest))
                    for weight in (1, 3, -2):
                        ends = sorted((weight * least, weight * greatest))
                        self.assertEqual(sum_range(publication, table, {cell: weight}), tuple(ends))
        self.assertGreater(linear, 10)

    def test_the_list_of_all_counts_and_the_ranges(self):
        generator = random.Random(313)
        plan = samples.triple_plan()
        for _ in range(10):
            census = samples.random_census(plan, generator, (0, 1, 2))
            publication = publish(census, {"t": [cell for cell in cells_of(plan, "t") if generator.random() < 0.8]})
            found = list(all_counts(publication, "t"))
            self.assertIn(counts_of(census, "t"), found)
            self.assertEqual(number_of_counts(publication, "t", most=len(found)), len(found))
            for cell in cells_of(plan, "t"):
                values = [counts[cell] for counts in found]
                # Every number of the range is the count in some of them.
                self.assertEqual(sorted(set(values)), list(range(min(values), max(values) + 1)))
                self.assertEqual(cell_range(publication, "t", cell), (min(values), max(values)))
            for counts in found[::5]:
                self.assertIs(counts_fit(plan, "t", counts, publication.totals()), True)
                self.assertIs(agrees(census_from(publication, {"t": counts}), publication), True)


class ImpossiblePublicationsTest(unittest.TestCase):
    def setUp(self):
        census = samples.land_census()
        totals = totals_of(census)
        jobs = counts_of(census, "jobs")
        hidden = dict.fromkeys(jobs)
        self.broken = [
            # A shown count above the total of its area.
            Publication(census.plan, totals, {"jobs": {**hidden, ("hill", 0): 7}}),
            Publication(census.plan, totals, {"jobs": {**hidden, ("land", 1): 16}}),
            # Totals that do not sum up.
            Publication(census.plan, {**totals, "land": 14}, {"jobs": hidden}),
            Publication(census.plan, {**totals, "hill": 7}, {"jobs": jobs}),
            # Counts that do not sum up.
            Publication(census.plan, totals, {"jobs": {**jobs, ("north", 0): 8, ("hill", 1): None}}),
        ]

    def test_is_possible(self):
        for publication in self.broken:
            self.assertIs(is_possible(publication), False)
            self.assertIs(is_possible(read_publication(publication_text(publication), publication.plan)), False)

    def test_invalid_publications(self):
        census = samples.land_census()
        for publication in self.broken:
            for call in BOTH_ERRORS:
                with self.assertRaises(InvalidPublication):
                    call(publication, "jobs")
            for call in (dossier, report_lines, lambda publication: census_from(publication, {}),
                         lambda publication: Service(census, publication, width=1)):
                with self.assertRaises(InvalidPublication):
                    call(publication)

    def test_tables_that_are_not_published(self):
        for publication in self.broken + [publish(samples.land_census(), {"jobs": []})]:
            for call in BOTH_ERRORS + ONE_ERROR:
                for table in ("people", "zoo", "age"):
                    with self.assertRaises(UnknownName) as caught:
                        call(publication, table)
                    self.assertEqual(caught.exception.name, table)

    def test_what_needs_no_possible_publication(self):
        for publication in self.broken:
            for call in ONE_ERROR:
                call(publication, "jobs")

    def test_without_tables(self):
        census = samples.land_census()
        publication = publish(census, {})
        self.assertIs(is_possible(publication), True)
        self.assertIs(same_census(census_from(publication, {}), census), False)
        self.assertIs(agrees(census_from(publication, {}), publication), True)
        self.assertEqual((dossier(publication), report_lines(publication)), ([], []))

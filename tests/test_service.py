import random
import unittest

import samples
from cellguard.census import Census
from cellguard.counting import cells_of, counts_of, totals_of
from cellguard.errors import InvalidPattern, InvalidPublication, Refused, TooLarge, UnknownName
from cellguard.publication import Publication, agrees, publish
from cellguard.ranges import cell_range
from cellguard.service import Service

SQUARE = [("hill", 0), ("hill", 1), ("dale", 0), ("dale", 1)]


def with_count(publication, table, cell, count):
    tables = {name: publication.cells(name) for name in publication.tables()}
    tables[table][cell] = count
    return Publication(publication.plan, publication.totals(), tables)


def is_wide(publication, table, cell, width):
    least, greatest = cell_range(publication, table, cell)
    return greatest - least >= width


def tried_harmless(publication, table, cell, guarded, width):
    """Whether a question is harmless, by the words of point 48: with every count of the range."""
    if publication.cells(table)[cell] is not None:
        return True
    if (table, cell) in guarded:
        return False
    least, greatest = cell_range(publication, table, cell)
    for count in range(least, greatest + 1):
        told = with_count(publication, table, cell, count)
        for name, other in guarded:
            if name == table and told.cells(table)[other] is None and not is_wide(told, table, other, width):
                return False
    return True


def leaves_census(rows):
    """A census of leaves with two classes each, of which the first two form a square."""
    return samples.census_of_rows(samples.flat_plan(len(rows), 2), {f"l{k}": row for k, row in enumerate(rows)})


def square_of(first, second):
    return [(f"l{first}", 0), (f"l{first}", 1), (f"l{second}", 0), (f"l{second}", 1)]


class ServiceTest(unittest.TestCase):
    def assert_same(self, known, publication):
        self.assertIsInstance(known, Publication)
        self.assertEqual(known.tables(), publication.tables())
        self.assertEqual(known.totals(), publication.totals())
        for table in publication.tables():
            self.assertEqual(known.cells(table), publication.cells(table))

    def test_a_census_that_does_not_agree(self):
        census = samples.land_census()
        publication = publish(census, {"jobs": SQUARE})
        other = samples.land_census()
        other.add(("hill", ("child", "f", "no")), 1)
        wrong = publication.cells("jobs")
        wrong[("south", 1)] = 3
        for told in (publish(other, {"jobs": SQUARE}), Publication(census.plan, totals_of(census), {"jobs": wrong}),
                     Publication(census.plan, {**totals_of(census), "land": 16}, {}), publish(other, {})):
            with self.assertRaises(InvalidPublication):
                Service(census, told, width=1)
        Service(census, publish(census, {}), width=1)
        self.assertEqual(Service(census, publish(census, {}), width=1).guarded(), [])

    def test_guarded(self):
        # The counts of the square can move by 2: that of (hill, 0) from 4 to 6. Those of the people move more.
        census = samples.land_census()
        cells = cells_of(census.plan, "people")
        publication = publish(census, {"jobs": SQUARE, "people": cells})
        for width in range(1, 8):
            guarded = [(table, cell) for table in ("people", "jobs") for cell in publication.hidden(table)
                       if is_wide(publication, table, cell, width)]
            service = Service(census, publication, width=width)
            self.assertEqual(service.guarded(), guarded)
            self.assertIs(type(service.guarded()), list)
            self.assertIs(type(service.guarded()[0]), tuple)
        self.assertEqual([cell for table, cell in Service(census, publication, width=2).guarded() if table == "jobs"], SQUARE)
        self.assertNotIn("jobs", [table for table, cell in Service(census, publication, width=3).guarded()])
        self.assertEqual(Service(census, publication, width=16).guarded(), [])

    def test_a_cell_alone_in_its_row_is_not_guarded(self):
        census = samples.land_census()
        publication = publish(census, {"jobs": [("land", 0)] + SQUARE})
        self.assertEqual(Service(census, publication, width=1).guarded(), [("jobs", cell) for cell in SQUARE])
        self.assertIs(Service(census, publication, width=1).is_harmless("jobs", ("land", 0)), True)

    def test_against_the_definition(self):
        generator = random.Random(211)
        seen = set()
        for plan in (samples.triple_plan(), samples.flat_plan(3, 3), samples.flat_plan(4, 2)):
            for _ in range(14):
                census = samples.random_census(plan, generator, (0, 1, 2, 3))
                publication = publish(census, {"t": [cell for cell in cells_of(plan, "t") if generator.random() < 0.8]})
                width = generator.randrange(1, 6)
                service = Service(census, publication, width=width)
                guarded = service.guarded()
                counts = counts_of(census, "t")
                for cell in generator.sample(list(counts), 6):
                    wanted = tried_harmless(service.known(), "t", cell, guarded, width)
                    self.assertIs(service.is_harmless("t", cell), wanted)
                    seen.add((wanted, ("t", cell) in guarded))
                    before = service.known()
                    if wanted:
                        self.assertEqual(service.ask("t", cell), counts[cell])
                        self.assert_same(service.known(), with_count(before, "t", cell, counts[cell]))
                        self.assertEqual(service.ask("t", cell), counts[cell])
                    else:
                        with self.assertRaises(Refused):
                            service.ask("t", cell)
                        self.assert_same(service.known(), before)
                    self.assertEqual(service.guarded(), guarded)
                    for table, other in guarded:
                        self.assertIs(is_wide(service.known(), table, other, width), True)
        self.assertEqual(seen, {(True, False), (False, False), (False, True)})

    def test_all_hidden_cells_of_publications_with_two_tables(self):
        generator = random.Random(212)
        plan = samples.pair_plan()
        refused = 0
        for _ in range(25):
            census = generator.choice(list(samples.all_censuses(plan, {"x": 2, "y": 1, "z": 2})))
            publication = publish(census, {table: [cell for cell in cells_of(plan, table) if generator.random() < 0.85]
                                           for table in ("first", "second")})
            for width in (1, 2):
                service = Service(census, publication, width=width)
                for table in ("first", "second"):
                    for cell in cells_of(plan, table):
                        wanted = tried_harmless(publication, table, cell, service.guarded(), width)
                        self.assertIs(service.is_harmless(table, cell), wanted)
                        refused += not wanted and (table, cell) not in service.guarded()
        self.assertGreater(refused, 0)

    def test_refusals_tell_nothing(self):
        # Every census that agrees gives the same answers to the questions whether they are harmless.
        generator = random.Random(213)
        plan = samples.pair_plan()
        censuses = list(samples.all_censuses(plan, {"x": 2, "y": 1, "z": 2}))
        for _ in range(6):
            publication = publish(generator.choice(censuses),
                                  {table: [cell for cell in cells_of(plan, table) if generator.random() < 0.8]
                                   for table in ("first", "second")})
            answers = []
            for census in [census for census in censuses if agrees(census, publication)][::7]:
                service = Service(census, publication, width=2)
                answers.append([service.guarded()] + [service.is_harmless(table, cell) for table in ("first", "second")
                                                      for cell in cells_of(plan, table)])
            self.assertTrue(all(answer == answers[0] for answer in answers))

    def test_questions_for_shown_and_for_guarded_cells(self):
        census = samples.land_census()
        service = Service(census, publish(census, {"jobs": SQUARE}), width=2)
        before = service.known()
        self.assertIs(service.is_harmless("jobs", ("south", 1)), True)
        self.assertEqual(service.ask("jobs", ("south", 1)), 4)
        self.assert_same(service.known(), before)
        for cell in SQUARE:
            self.assertIs(service.is_harmless("jobs", cell), False)
            with self.assertRaises(Refused):
                service.ask("jobs", cell)
        self.assert_same(service.known(), before)
        # With a greater width none of them is guarded, and all may be asked.
        service = Service(census, publish(census, {"jobs": SQUARE}), width=3)
        self.assertEqual([service.ask("jobs", cell) for cell in SQUARE], [4, 2, 5, 0])
        self.assertEqual(service.known().hidden("jobs"), [])

    def test_too_large(self):
        # The range of (l0, 0) goes from 0 to the total of l0; nothing is guarded with so great a width.
        for total, large in ((998, False), (999, False), (1000, True), (5000, True)):
            census = leaves_census([[1, total - 1], [5000, 5000], [3, 3]])
            service = Service(census, publish(census, {"t": square_of(0, 1)}), width=total + 1)
            self.assertEqual(service.guarded(), [])
            if large:
                for call in (service.is_harmless, service.ask):
                    with self.assertRaises(TooLarge):
                        call("t", ("l0", 0))
                self.assertEqual(service.known().hidden("t"), square_of(0, 1))
            else:
                self.assertIs(service.is_harmless("t", ("l0", 0)), True)
                self.assertEqual(service.ask("t", ("l0", 0)), 1)
            # What is shown or guarded is never too large.
            self.assertEqual(service.ask("t", ("l2", 0)), 3)
            guarding = Service(census, publish(census, {"t": square_of(0, 1)}), width=total)
            self.assertEqual(guarding.guarded(), [("t", cell) for cell in square_of(0, 1)])
            self.assertIs(guarding.is_harmless("t", ("l0", 0)), False)

    def test_a_range_that_begins_high(self):
        # (l1, 0) lies between 4001 and 5000: a thousand counts, although they are large.
        census = leaves_census([[1, 998], [4999, 1], [3, 3]])
        publication = publish(census, {"t": square_of(0, 1)})
        self.assertEqual(cell_range(publication, "t", ("l1", 0)), (4001, 5000))
        service = Service(census, publication, width=1000)
        self.assertIs(service.is_harmless("t", ("l1", 0)), True)
        self.assertEqual(service.ask("t", ("l1", 0)), 4999)

    def test_a_refused_question_with_a_thousand_counts(self):
        # Of the range of l1, which l0 and l2 make up for together, much is lost when l0 is told.
        census = leaves_census([[500, 499], [3000, 3000], [3000, 3000]])
        hidden = square_of(0, 1) + square_of(2, 3)[:2]
        wide = cell_range(publish(census, {"t": hidden}), "t", ("l1", 0))
        width = wide[1] - wide[0]
        service = Service(census, publish(census, {"t": hidden}), width=width)
        self.assertIn(("t", ("l1", 0)), service.guarded())
        self.assertNotIn(("t", ("l0", 0)), service.guarded())
        self.assertEqual(cell_range(service.known(), "t", ("l0", 0)), (0, 999))
        self.assertIs(service.is_harmless("t", ("l0", 0)), tried_harmless(service.known(), "t", ("l0", 0), service.guarded(), width))
        census.add(("l0", ("a",)), 1)
        service = Service(census, publish(census, {"t": hidden}), width=width + 1)
        with self.assertRaises(TooLarge):
            service.is_harmless("t", ("l0", 0))

    def test_errors_in_their_order(self):
        census = samples.land_census()
        service = Service(census, publish(census, {"jobs": SQUARE}), width=1)
        for call in (service.is_harmless, service.ask):
            for table in ("people", "zoo"):
                for cell in (("hill", 0), ("moon", 0)):
                    with self.assertRaises(UnknownName) as caught:
                        call(table, cell)
                    self.assertEqual(caught.exception.name, table)
            for cell in (("moon", 0), ("hill", 2), ("hill", -1)):
                with self.assertRaises(InvalidPattern):
                    call("jobs", cell)

    def test_copies_and_new_results(self):
        census = samples.land_census()
        publication = publish(census, {"jobs": [("land", 0)] + SQUARE})
        service = Service(census, publication, width=2)
        census.add(("hill", ("child", "f", "no")), 5)
        self.assertEqual(service.ask("jobs", ("land", 0)), 9)
        self.assertEqual(publication.hidden("jobs"), [("land", 0)] + SQUARE)
        service.guarded().clear()
        service.known().cells("jobs").clear()
        self.assertEqual(len(service.guarded()), 4)
        self.assertIsNot(service.known(), service.known())
        self.assertEqual(service.known().cells("jobs")[("land", 0)], 9)
        self.assertEqual(service.known().hidden("jobs"), SQUARE)

    def test_an_empty_census(self):
        plan = samples.flat_plan(2, 2)
        census = Census(plan, [])
        service = Service(census, publish(census, {"t": cells_of(plan, "t")}), width=1)
        self.assertEqual(service.guarded(), [])
        self.assertEqual([service.ask("t", cell) for cell in cells_of(plan, "t")], [0] * 6)

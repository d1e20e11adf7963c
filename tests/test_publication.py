import copy
import unittest

import samples
from cellguard.census import Census
from cellguard.counting import cells_of, counts_of, totals_of
from cellguard.errors import InvalidPattern, InvalidPublication, UnknownName
from cellguard.publication import Publication, agrees, publish

PEOPLE_PATTERN = [("land", 0), ("land", 2), ("north", 0), ("north", 2), ("hill", 0), ("hill", 2), ("dale", 2)]
JOBS_PATTERN = [("south", 0), ("south", 1)]


class PublicationTest(unittest.TestCase):
    def setUp(self):
        self.census = samples.land_census()
        self.plan = self.census.plan
        self.all_totals = totals_of(self.census)
        self.tables = {"jobs": counts_of(self.census, "jobs"), "people": counts_of(self.census, "people")}
        for cell in PEOPLE_PATTERN:
            self.tables["people"][cell] = None

    def made(self):
        return Publication(self.plan, self.all_totals, self.tables)

    def test_parts(self):
        publication = self.made()
        self.assertIs(publication.plan, self.plan)
        self.assertEqual(publication.totals(), self.all_totals)
        self.assertEqual(publication.tables(), ["people", "jobs"])
        self.assertEqual(publication.cells("people"), self.tables["people"])
        self.assertEqual(publication.cells("jobs"), self.tables["jobs"])
        self.assertEqual(publication.hidden("people"), PEOPLE_PATTERN)
        self.assertEqual(publication.hidden("jobs"), [])

    def test_order_does_not_depend_on_the_dicts(self):
        for table in self.tables:
            cells = self.tables[table]
            self.tables[table] = {cell: cells[cell] for cell in list(cells)[::-1]}
        self.all_totals = dict(list(self.all_totals.items())[::-1])
        publication = self.made()
        self.assertEqual(publication.hidden("people"), PEOPLE_PATTERN)
        self.assertEqual(list(publication.cells("people")), cells_of(self.plan, "people"))
        self.assertEqual(list(publication.totals()), self.plan.areas.names())

    def test_some_and_no_tables(self):
        publication = Publication(self.plan, self.all_totals, {})
        self.assertEqual(publication.tables(), [])
        publication = Publication(self.plan, self.all_totals, {"jobs": self.tables["jobs"]})
        self.assertEqual(publication.tables(), ["jobs"])

    def test_tables_that_it_does_not_have(self):
        publication = Publication(self.plan, self.all_totals, {"jobs": self.tables["jobs"]})
        for name in ("people", "age", ""):
            for call in (publication.cells, publication.hidden):
                with self.assertRaises(UnknownName) as caught:
                    call(name)
                self.assertEqual(caught.exception.name, name)

    def test_unknown_tables(self):
        self.tables["zoo"] = {}
        self.tables["age"] = self.tables["people"]
        with self.assertRaises(UnknownName) as caught:
            self.made()
        self.assertEqual(caught.exception.name, "age")

    def test_unknown_names_come_first(self):
        self.tables["zoo"] = {}
        self.tables["jobs"].clear()
        self.all_totals["land"] = -1
        with self.assertRaises(UnknownName) as caught:
            self.made()
        self.assertEqual(caught.exception.name, "zoo")

    def assert_invalid(self):
        with self.assertRaises(InvalidPublication):
            self.made()

    def test_wrong_totals(self):
        right = dict(self.all_totals)
        for area in right:
            self.all_totals = {name: right[name] for name in right if name != area}
            self.assert_invalid()
            self.all_totals = {**right, area: -1}
            self.assert_invalid()
        self.all_totals = {**right, "west": 0}
        self.assert_invalid()
        self.all_totals = {("sea" if area == "dale" else area): right[area] for area in right}
        self.assert_invalid()
        self.all_totals = right
        self.made()

    def test_wrong_cells(self):
        for table in ("people", "jobs"):
            right = dict(self.tables[table])
            for cell in right:
                self.tables[table] = {other: right[other] for other in right if other != cell}
                self.assert_invalid()
                self.tables[table] = {**right, cell: -1}
                self.assert_invalid()
            for cell in (("west", 0), ("land", 4), ("land", -1)):
                self.tables[table] = {**right, cell: 0}
                self.assert_invalid()
            self.tables[table] = {**right, ("west", 0): None}
            self.assert_invalid()
            self.tables[table] = right
            self.made()

    def test_numbers_that_do_not_sum_up_are_allowed(self):
        self.all_totals["land"] = 999
        self.tables["jobs"][("hill", 0)] = 10 ** 7
        self.assertEqual(self.made().cells("jobs")[("hill", 0)], 10 ** 7)

    def test_copies(self):
        tables = copy.deepcopy(self.tables)
        totals = dict(self.all_totals)
        publication = self.made()
        self.tables["people"][("land", 0)] = 17
        self.tables["jobs"].clear()
        del self.tables["jobs"]
        self.all_totals.clear()
        publication.totals().clear()
        publication.tables().clear()
        publication.cells("people").clear()
        publication.hidden("people").clear()
        self.assertEqual(publication.totals(), totals)
        self.assertEqual(publication.tables(), ["people", "jobs"])
        self.assertEqual(publication.cells("people"), tables["people"])
        self.assertEqual(publication.cells("jobs"), tables["jobs"])
        self.assertEqual(publication.hidden("people"), PEOPLE_PATTERN)


class PublishTest(unittest.TestCase):
    def setUp(self):
        self.census = samples.land_census()

    def test_all_tables(self):
        publication = publish(self.census, {"jobs": JOBS_PATTERN, "people": PEOPLE_PATTERN})
        self.assertIs(publication.plan, self.census.plan)
        self.assertEqual(publication.tables(), ["people", "jobs"])
        self.assertEqual(publication.totals(), totals_of(self.census))
        self.assertEqual(publication.hidden("people"), PEOPLE_PATTERN)
        self.assertEqual(publication.hidden("jobs"), JOBS_PATTERN)
        for table, pattern in (("people", PEOPLE_PATTERN), ("jobs", JOBS_PATTERN)):
            counts = counts_of(self.census, table)
            for cell, count in publication.cells(table).items():
                self.assertEqual(count, None if cell in pattern else counts[cell])

    def test_some_and_no_tables(self):
        self.assertEqual(publish(self.census, {"jobs": []}).tables(), ["jobs"])
        self.assertEqual(publish(self.census, {"jobs": []}).hidden("jobs"), [])
        self.assertEqual(publish(self.census, {"jobs": []}).cells("jobs"), counts_of(self.census, "jobs"))
        self.assertEqual(publish(self.census, {}).tables(), [])
        self.assertEqual(publish(self.census, {}).totals(), totals_of(self.census))

    def test_everything_hidden(self):
        everything = cells_of(self.census.plan, "people")
        publication = publish(self.census, {"people": everything})
        self.assertEqual(publication.hidden("people"), everything)
        self.assertEqual(set(publication.cells("people").values()), {None})

    def test_wrong_patterns(self):
        for bad in ([("land", 1), ("land", 0)], [("hill", 0), ("north", 0)], [("land", 0), ("land", 0)],
                    [("dale", 0), ("hill", 0)], [("land", 2)], [("land", -1)], [("west", 0)], [("land", 0), ("west", 0)],
                    [("west", 0), ("land", 0)], [("dale", 1), ("dale", 2)], [("south", 1), ("land", 0)],
                    [("land", 0), ("land", 1), ("land", 1)], [("", 0)]):
            with self.subTest(bad):
                with self.assertRaises(InvalidPattern):
                    publish(self.census, {"jobs": bad})
                with self.assertRaises(InvalidPattern):
                    publish(self.census, {"people": [], "jobs": bad})

    def test_unknown_names_come_first(self):
        with self.assertRaises(UnknownName) as caught:
            publish(self.census, {"jobs": [("west", 0)], "zoo": [], "age": []})
        self.assertEqual(caught.exception.name, "age")
        with self.assertRaises(UnknownName) as caught:
            publish(self.census, {"land": []})
        self.assertEqual(caught.exception.name, "land")

    def test_nothing_is_modified(self):
        patterns = {"jobs": list(JOBS_PATTERN), "people": list(PEOPLE_PATTERN)}
        records = self.census.records()
        publication = publish(self.census, patterns)
        self.assertEqual(patterns, {"jobs": JOBS_PATTERN, "people": PEOPLE_PATTERN})
        self.assertEqual(self.census.records(), records)
        patterns["jobs"].clear()
        self.census.add(("hill", ("old", "f", "no")), 3)
        self.assertEqual(publication.hidden("jobs"), JOBS_PATTERN)
        self.assertEqual(publication.totals()["land"], 15)
        self.assertEqual(publication.cells("jobs")[("land", 0)], 9)


class AgreesTest(unittest.TestCase):
    def setUp(self):
        self.census = samples.land_census()

    def changed(self, changes):
        numbers = dict(self.census.records())
        for record, change in changes.items():
            numbers[record] = numbers.get(record, 0) + change
        return Census(self.census.plan, list(numbers.items()))

    def test_the_census_itself(self):
        everything = cells_of(self.census.plan, "people")
        for patterns in ({}, {"jobs": []}, {"people": PEOPLE_PATTERN, "jobs": JOBS_PATTERN}, {"people": everything}):
            self.assertIs(agrees(self.census, publish(self.census, patterns)), True)

    def test_other_censuses_with_the_same_shown_counts(self):
        publication = publish(self.census, {"people": PEOPLE_PATTERN, "jobs": []})
        # Class 0 and class 2 of people change their places in two leaves.
        other = self.changed({("hill", ("child", "f", "no")): -1, ("hill", ("old", "f", "no")): 1,
                              ("dale", ("old", "f", "yes")): 0})
        self.assertIs(agrees(other, publication), True)
        # Values inside a group do not matter.
        other = self.changed({("dale", ("old", "f", "yes")): -5, ("dale", ("adult", "f", "yes")): 5})
        self.assertIs(agrees(other, publication), True)

    def test_another_total(self):
        for patterns in ({}, {"people": cells_of(self.census.plan, "people")}):
            publication = publish(self.census, patterns)
            self.assertIs(agrees(self.changed({("hill", ("child", "f", "no")): 1}), publication), False)
            moved = {("hill", ("child", "f", "no")): -1, ("dale", ("child", "f", "no")): 1}
            self.assertIs(agrees(self.changed(moved), publication), False)
        self.assertIs(agrees(Census(self.census.plan, []), publish(self.census, {})), False)

    def test_another_shown_count(self):
        other = self.changed({("hill", ("child", "f", "no")): -1, ("hill", ("child", "m", "no")): 1})
        self.assertIs(agrees(other, publish(self.census, {"people": PEOPLE_PATTERN})), False)
        self.assertIs(agrees(other, publish(self.census, {"jobs": []})), True)
        self.assertIs(agrees(other, publish(self.census, {"people": PEOPLE_PATTERN, "jobs": []})), False)
        self.assertIs(agrees(other, publish(self.census, {})), True)
        shown = [cell for cell in cells_of(self.census.plan, "people") if cell != ("hill", 1)]
        self.assertIs(agrees(other, publish(self.census, {"people": shown})), False)

    def test_a_shown_zero(self):
        other = self.changed({("dale", ("old", "f", "yes")): -1, ("dale", ("child", "f", "yes")): 1})
        everything_else = [cell for cell in cells_of(self.census.plan, "people") if cell != ("dale", 0)]
        self.assertIs(agrees(other, publish(self.census, {"people": everything_else})), False)

import random
import unittest

import samples
from cellguard.census import Census
from cellguard.counting import cells_of, counts_of, totals_of
from cellguard.errors import InvalidPattern, Refused, TooLarge, UnknownName
from cellguard.hiding import tight_pattern
from cellguard.leastcost import least_pattern
from cellguard.office import Office
from cellguard.publication import Publication, publish
from cellguard.ranges import cell_range, extreme_census
from cellguard.rules import is_safe, protected_cells, wanted_range

RULES = {"people": (3, 1, 1), "jobs": (3, 0, 2)}
# In the jobs of the land only (north, 1) with 2 and (hill, 1) with 2 are protected.
JOBS_SQUARE = [("north", 0), ("north", 1), ("south", 0), ("south", 1), ("hill", 0), ("hill", 1), ("dale", 0), ("dale", 1)]


def land_office(rules=None):
    return Office(samples.land_census(), rules or RULES)


class OfficeTest(unittest.TestCase):
    def assert_known(self, office, patterns, census=None):
        known = office.known()
        self.assertIsInstance(known, Publication)
        self.assertEqual(known.tables(), [table for table in ("people", "jobs") if table in patterns])
        self.assertEqual(known.totals(), totals_of(census or samples.land_census()))
        for table, pattern in patterns.items():
            self.assertEqual(known.hidden(table), pattern)
            self.assertEqual(known.cells(table), publish(census or samples.land_census(), patterns).cells(table))

    def test_a_new_office(self):
        office = land_office()
        self.assert_known(office, {})
        self.assertEqual(office.log(), [])
        self.assertIs(type(office.log()), list)

    def test_rules_and_tables(self):
        census = samples.land_census()
        for rules, name in (({}, "jobs"), ({"people": (1, 1, 1)}, "jobs"), ({"jobs": (1, 1, 1)}, "people"),
                            ({**RULES, "zoo": (1, 1, 1)}, "zoo"), ({**RULES, "age": (1, 1, 1)}, "age"),
                            ({"people": (1, 1, 1), "age": (1, 1, 1)}, "age"), ({"people": (1, 1, 1), "zoo": (1, 1, 1)}, "jobs"),
                            ({"k": (1, 1, 1), "zoo": (1, 1, 1)}, "jobs"), ({"jobs": (0, 0, 0), "q": (0, 0, 0)}, "people"),
                            ({"jobs": (0, 0, 0), "p": (0, 0, 0)}, "p")):
            with self.assertRaises(UnknownName) as caught:
                Office(census, rules)
            self.assertEqual(caught.exception.name, name)

    def test_release(self):
        office = land_office()
        found = office.release("jobs", JOBS_SQUARE)
        self.assertIsInstance(found, Publication)
        self.assertEqual(found.hidden("jobs"), JOBS_SQUARE)
        self.assertEqual(found.cells("jobs"), office.known().cells("jobs"))
        self.assert_known(office, {"jobs": JOBS_SQUARE})
        people = cells_of(samples.land_plan(), "people")
        office.release("people", people)
        self.assert_known(office, {"people": people, "jobs": JOBS_SQUARE})
        self.assertEqual(office.log(), ["release jobs 8", f"release people {len(people)}"])

    def test_what_was_shown_stays_shown(self):
        office = land_office()
        cells = cells_of(samples.land_plan(), "jobs")
        office.release("jobs", cells)
        office.release("jobs", JOBS_SQUARE)
        self.assert_known(office, {"jobs": JOBS_SQUARE})
        found = office.release("jobs", cells)
        self.assertEqual(found.hidden("jobs"), JOBS_SQUARE)
        self.assert_known(office, {"jobs": JOBS_SQUARE})
        self.assertEqual(office.log(), ["release jobs 10", "release jobs 8", "release jobs 10"])
        # Neither pattern contains the other one.
        office = land_office()
        office.release("jobs", [cell for cell in cells if cell != ("dale", 0)])
        office.release("jobs", JOBS_SQUARE)
        self.assert_known(office, {"jobs": [cell for cell in JOBS_SQUARE if cell != ("dale", 0)]})
        self.assertEqual(office.log(), ["release jobs 9", "release jobs 8"])

    def test_two_safe_patterns_that_are_not_safe_together(self):
        census = samples.census_of_rows(samples.flat_plan(3, 2), {"l0": [1, 8], "l1": [7, 9], "l2": [6, 6]})
        rule = (2, 1, 1)
        first = [("l0", 0), ("l0", 1), ("l1", 0), ("l1", 1)]
        second = [("l0", 0), ("l0", 1), ("l2", 0), ("l2", 1)]
        for pattern in (first, second):
            self.assertTrue(is_safe(census, "t", rule, pattern))
        office = Office(census, {"t": rule})
        office.release("t", first)
        with self.assertRaises(Refused):
            office.release("t", second)
        self.assertEqual(office.known().hidden("t"), first)
        self.assertEqual(office.log(), ["release t 4", "refused release t"])
        office.release("t", first + second[2:])
        self.assertEqual(office.known().hidden("t"), first)
        self.assertEqual(office.log()[2:], ["release t 6"])

    def test_refused_releases(self):
        office = land_office()
        for pattern in ([], [("hill", 1)], [("north", 1), ("hill", 1)]):
            with self.assertRaises(Refused):
                office.release("jobs", pattern)
        self.assert_known(office, {})
        self.assertEqual(office.log(), ["refused release jobs"] * 3)
        office.release("jobs", JOBS_SQUARE)
        with self.assertRaises(Refused):
            office.release("jobs", [])
        self.assert_known(office, {"jobs": JOBS_SQUARE})
        self.assertEqual(office.log(), ["refused release jobs"] * 3 + ["release jobs 8", "refused release jobs"])

    def test_errors_of_release_in_their_order(self):
        office = land_office()
        for table in ("age", "zoo", ""):
            for pattern in ([], [("moon", 0)]):
                with self.assertRaises(UnknownName) as caught:
                    office.release(table, pattern)
                self.assertEqual(caught.exception.name, table)
        for pattern in ([("hill", 1), ("hill", 0)], [("hill", 1), ("hill", 1)], [("hill", 2)], [("moon", 0)]):
            with self.assertRaises(InvalidPattern):
                office.release("jobs", pattern)
        self.assertEqual(office.log(), [])
        self.assert_known(office, {})

    def test_release_least(self):
        office = land_office()
        least, _ = least_pattern(samples.land_census(), "jobs", RULES["jobs"])
        found = office.release_least("jobs")
        self.assertIsInstance(found, Publication)
        self.assertEqual(found.hidden("jobs"), least)
        self.assert_known(office, {"jobs": least})
        self.assertEqual(office.log(), [f"release jobs {len(least)}"])
        for call in (lambda: office.release_least("jobs"), lambda: office.release_least("jobs", most=0)):
            with self.assertRaises(Refused):
                call()
        self.assertEqual(office.log(), [f"release jobs {len(least)}"] + ["refused release jobs"] * 2)
        self.assert_known(office, {"jobs": least})

    def test_release_least_passes_sort_and_most(self):
        census = samples.land_census()
        for sort in ("cells", "persons"):
            office = land_office()
            least, _ = least_pattern(census, "jobs", RULES["jobs"], sort=sort)
            self.assertEqual(office.release_least("jobs", sort=sort, most=8).hidden("jobs"), least)
        office = land_office()
        with self.assertRaises(TooLarge):
            office.release_least("jobs", most=7)
        with self.assertRaises(TooLarge):
            office.release_least("people", most=5)
        self.assertEqual(office.log(), [])
        self.assert_known(office, {})
        office.release_least("people", sort="persons", most=20)
        self.assertEqual(office.known().hidden("people"),
                         least_pattern(census, "people", RULES["people"], sort="persons", most=20)[0])

    def test_release_least_without_most_takes_fourteen_cells(self):
        rows = {"l0": [1, 5, 5], "l1": [5, 5, 5], "l2": [5, 5, 5], "l3": [5, 5, 5]}
        plan = samples.flat_plan(4, 3)
        office = Office(samples.census_of_rows(plan, rows), {"t": (2, 1, 1)})
        self.assertEqual(len(office.release_least("t").hidden("t")), 4)
        with self.assertRaises(TooLarge):
            Office(samples.census_of_rows(plan, {**rows, "l0": [5, 5, 5]}), {"t": (2, 1, 1)}).release_least("t")

    def test_release_least_of_unknown_tables(self):
        office = land_office()
        for table in ("age", "zoo"):
            with self.assertRaises(UnknownName) as caught:
                office.release_least(table, most=0)
            self.assertEqual(caught.exception.name, table)
        self.assertEqual(office.log(), [])

    def test_release_least_after_a_release(self):
        office = land_office()
        with self.assertRaises(Refused):
            office.release("jobs", [])
        office.release_least("jobs")
        office = land_office()
        office.release("jobs", JOBS_SQUARE)
        with self.assertRaises(Refused):
            office.release_least("jobs")
        self.assert_known(office, {"jobs": JOBS_SQUARE})

    def test_ask(self):
        office = land_office()
        cells = cells_of(samples.land_plan(), "jobs")
        office.release("jobs", cells)
        # One that is not needed, the same one again, then a protected one, and another one that is not needed.
        self.assertEqual(office.ask("jobs", ("south", 1)), 4)
        self.assertEqual(office.ask("jobs", ("south", 1)), 4)
        hidden = [cell for cell in cells if cell != ("south", 1)]
        self.assert_known(office, {"jobs": hidden})
        with self.assertRaises(Refused):
            office.ask("jobs", ("hill", 1))
        self.assert_known(office, {"jobs": hidden})
        self.assertEqual(office.ask("jobs", ("dale", 0)), 5)
        hidden.remove(("dale", 0))
        self.assert_known(office, {"jobs": hidden})
        self.assertEqual(office.log(), ["release jobs 10", "ask jobs south 1", "ask jobs south 1",
                                        "refused ask jobs hill 1", "ask jobs dale 0"])

    def test_ask_until_the_pattern_is_tight(self):
        for generator in (random.Random(121), random.Random(122)):
            office = land_office()
            census = samples.land_census()
            cells = cells_of(census.plan, "people")
            office.release("people", cells)
            counts = counts_of(census, "people")
            lines = [f"release people {len(cells)}"]
            hidden = list(cells)
            for cell in generator.sample(cells, len(cells)):
                rest = [other for other in hidden if other != cell]
                if is_safe(census, "people", RULES["people"], rest):
                    self.assertEqual(office.ask("people", cell), counts[cell])
                    lines.append(f"ask people {cell[0]} {cell[1]}")
                    hidden = rest
                else:
                    with self.assertRaises(Refused):
                        office.ask("people", cell)
                    lines.append(f"refused ask people {cell[0]} {cell[1]}")
                self.assert_known(office, {"people": hidden})
            self.assertEqual(office.log(), lines)
            self.assertLess(len(hidden), len(cells))

    def test_errors_of_ask_in_their_order(self):
        office = land_office()
        office.release("jobs", JOBS_SQUARE)
        for table in ("people", "age"):
            for cell in (("land", 0), ("moon", 0)):
                with self.assertRaises(UnknownName) as caught:
                    office.ask(table, cell)
                self.assertEqual(caught.exception.name, table)
        for cell in (("moon", 0), ("land", 2), ("land", -1)):
            with self.assertRaises(InvalidPattern):
                office.ask("jobs", cell)
        self.assertEqual(office.log(), ["release jobs 8"])

    def test_what_a_refused_release_hides_is_not_released(self):
        office = land_office()
        with self.assertRaises(Refused):
            office.release("jobs", [])
        with self.assertRaises(UnknownName):
            office.ask("jobs", ("land", 0))

    def test_the_census_is_copied(self):
        census = samples.land_census()
        rules = dict(RULES)
        office = Office(census, rules)
        census.add(("south", ("child", "m", "yes")), 50)
        rules["jobs"] = (0, 0, 0)
        with self.assertRaises(Refused):
            office.release("jobs", [])
        office.release("jobs", JOBS_SQUARE)
        self.assertEqual(office.ask("jobs", ("land", 0)), 9)
        self.assert_known(office, {"jobs": JOBS_SQUARE})

    def test_results_are_new(self):
        office = land_office()
        pattern = list(JOBS_SQUARE)
        office.release("jobs", pattern)
        pattern.clear()
        office.log().append("x")
        office.known().cells("jobs").clear()
        office.known().hidden("jobs").clear()
        self.assertIsNot(office.known(), office.known())
        self.assert_known(office, {"jobs": JOBS_SQUARE})
        self.assertEqual(office.log(), ["release jobs 8"])
        before = office.known()
        office.ask("jobs", ("land", 0))
        try:
            office.ask("jobs", ("south", 0))
        except Refused:
            pass
        self.assertEqual(before.hidden("jobs"), JOBS_SQUARE)

    def test_two_offices_do_not_share_anything(self):
        first = land_office()
        second = land_office()
        first.release("jobs", JOBS_SQUARE)
        self.assertEqual(second.log(), [])
        self.assert_known(second, {})

    def test_protected_cells_stay_protected_whatever_is_done(self):
        generator = random.Random(123)
        for _ in range(6):
            census = samples.random_census(samples.triple_plan(), generator, (0, 1, 2, 3, 7))
            rule = generator.choice(((2, 1, 1), (3, 1, 2), (3, 2, 2)))
            office = Office(census, {"t": rule})
            cells = cells_of(census.plan, "t")
            for _ in range(25):
                deed = generator.randrange(4)
                try:
                    if deed == 0:
                        office.release("t", [cell for cell in cells if generator.random() < 0.95])
                    elif deed == 1:
                        office.release("t", tight_pattern(census, "t", rule))
                    elif deed == 2:
                        office.release("t", cells)
                    else:
                        office.ask("t", generator.choice(cells))
                except (Refused, UnknownName):
                    pass
                known = office.known()
                if known.tables():
                    self.assertIs(is_safe(census, "t", rule, known.hidden("t")), True)
                    self.assert_wanted(census, rule, known)

    def assert_wanted(self, census, rule, known):
        """Both ends of the wanted ranges are reached by censuses that agree with what is known."""
        for cell in protected_cells(census, "t", rule):
            low, high = wanted_range(census, "t", rule, cell)
            least, greatest = cell_range(known, "t", cell)
            self.assertTrue(least <= low and high <= greatest)
            self.assertLessEqual(counts_of(extreme_census(known, "t", cell, -1), "t")[cell], low)
            self.assertGreaterEqual(counts_of(extreme_census(known, "t", cell, 1), "t")[cell], high)

    def test_an_empty_census(self):
        plan = samples.flat_plan(2, 2)
        office = Office(Census(plan, []), {"t": (5, 1, 1)})
        office.release("t", [])
        self.assertEqual(office.ask("t", ("l0", 1)), 0)
        self.assertEqual(office.log(), ["release t 0", "ask t l0 1"])

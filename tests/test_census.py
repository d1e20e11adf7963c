import unittest

import samples
from cellguard.census import Census, census_text, read_census, same_census
from cellguard.errors import InvalidRecord, InvalidText
from cellguard.plan import Plan

CHILD = ("child", "f", "no")
UNFIT = [
    ("land", CHILD), ("north", CHILD), ("west", CHILD), ("", CHILD), ("Hill", CHILD),
    ("hill", ()), ("hill", ("child", "f")), ("hill", ("child", "f", "no", "no")),
    ("hill", ("f", "child", "no")), ("hill", ("baby", "f", "no")), ("hill", ("child", "f", "maybe")),
    ("hill", ("child", "f", "")),
]


class CensusTest(unittest.TestCase):
    def setUp(self):
        self.plan = samples.land_plan()

    def test_plan(self):
        self.assertIs(Census(self.plan, []).plan, self.plan)

    def test_empty_census(self):
        census = Census(self.plan, [])
        self.assertEqual(census.records(), [])
        self.assertEqual(census.people(), 0)
        self.assertEqual(census.number(("hill", CHILD)), 0)

    def test_numbers_are_added(self):
        census = Census(self.plan, [(("hill", CHILD), 2), (("dale", CHILD), 1), (("hill", CHILD), 3)])
        self.assertEqual(census.number(("hill", CHILD)), 5)
        self.assertEqual(census.number(("dale", CHILD)), 1)
        self.assertEqual(census.number(("south", CHILD)), 0)
        census.add(("hill", CHILD), 4)
        census.add(("south", CHILD), 1)
        self.assertEqual(census.number(("hill", CHILD)), 9)
        self.assertEqual(census.number(("south", CHILD)), 1)
        self.assertEqual(census.people(), 11)

    def test_the_number_0(self):
        census = Census(self.plan, [(("hill", CHILD), 0), (("dale", CHILD), 2), (("dale", CHILD), 0)])
        census.add(("south", CHILD), 0)
        self.assertEqual(census.records(), [(("dale", CHILD), 2)])
        self.assertEqual(census.number(("hill", CHILD)), 0)
        self.assertEqual(census.people(), 2)

    def test_order_of_the_records(self):
        records = [(leaf, (age, sex, work)) for leaf in ("south", "hill", "dale") for age in ("child", "adult", "old")
                   for sex in ("f", "m") for work in ("no", "yes")]
        shuffled = records[7:] + records[:7]
        census = Census(self.plan, [(record, 1) for record in shuffled[::-1]])
        self.assertEqual(census.records(), [(record, 1) for record in records])
        self.assertEqual(census.people(), 36)

    def test_kinds_of_the_records(self):
        records = samples.land_census().records()
        self.assertIs(type(records), list)
        for entry in records:
            self.assertIs(type(entry), tuple)
            self.assertIs(type(entry[0]), tuple)
            self.assertIs(type(entry[0][1]), tuple)

    def test_number_of_records_that_do_not_fit(self):
        census = samples.land_census()
        for record in UNFIT:
            with self.subTest(record):
                self.assertEqual(census.number(record), 0)

    def test_records_that_do_not_fit(self):
        census = samples.land_census()
        before = census.records()
        for record in UNFIT:
            for number in (0, 1):
                with self.subTest(record=record, number=number):
                    with self.assertRaises(InvalidRecord):
                        census.add(record, number)
                    self.assertEqual(census.records(), before)
                    self.assertEqual(census.people(), 15)
                    with self.assertRaises(InvalidRecord):
                        Census(self.plan, [(("hill", CHILD), 1), (record, number)])

    def test_later_changes_have_no_effect(self):
        entries = [(("hill", CHILD), 2)]
        census = Census(self.plan, entries)
        entries.append((("dale", CHILD), 1))
        census.records().append((("dale", CHILD), 1))
        self.assertEqual(census.records(), [(("hill", CHILD), 2)])
        self.assertEqual(entries, [(("hill", CHILD), 2), (("dale", CHILD), 1)])

    def test_census_of_a_tree_of_one_area(self):
        plan = Plan([("land", None)], [("age", ["a", "b"])], [("t", [("age", [["a"], ["b"]])])])
        self.assertEqual(Census(plan, [(("land", ("b",)), 3)]).records(), [(("land", ("b",)), 3)])

    def test_same_census(self):
        first = samples.land_census()
        second = Census(samples.land_plan(), [(record, 1) for record, number in first.records()[::-1]
                                              for _ in range(number)])
        self.assertIs(same_census(first, second), True)
        second.add(("dale", CHILD), 0)
        self.assertIs(same_census(first, second), True)
        second.add(("hill", CHILD), 1)
        self.assertIs(same_census(first, second), False)
        self.assertIs(same_census(second, first), False)
        first.add(("dale", CHILD), 1)
        self.assertIs(same_census(first, second), False)
        self.assertIs(same_census(Census(first.plan, []), Census(first.plan, [(("hill", CHILD), 0)])), True)


class CensusTextTest(unittest.TestCase):
    def setUp(self):
        self.plan = samples.land_plan()

    def test_text(self):
        self.assertEqual(census_text(samples.land_census()), samples.LAND_CENSUS_TEXT)
        self.assertEqual(census_text(Census(self.plan, [])), "")

    def test_zero_is_not_written(self):
        census = Census(self.plan, [(("hill", CHILD), 0), (("dale", CHILD), 10)])
        self.assertEqual(census_text(census), "10 dale child f no\n")

    def test_reading(self):
        census = read_census(samples.LAND_CENSUS_TEXT, self.plan)
        self.assertIs(census.plan, self.plan)
        self.assertIs(same_census(census, samples.land_census()), True)
        self.assertEqual(read_census("", self.plan).records(), [])
        self.assertEqual(read_census("\n# none", self.plan).records(), [])

    def test_reading_lines_in_any_order(self):
        lines = samples.LAND_CENSUS_TEXT.splitlines()[::-1]
        text = "# census\n\n" + "\n".join(lines[:2]) + "\n\n#\n" + "\n".join(lines[2:])
        self.assertEqual(census_text(read_census(text, self.plan)), samples.LAND_CENSUS_TEXT)

    def test_reading_the_same_record_again(self):
        text = "2 hill child f no\n1 dale old m yes\n3 hill child f no\n9999999 hill child f no\n"
        census = read_census(text, self.plan)
        self.assertEqual(census.records(), [(("hill", CHILD), 10000004), (("dale", ("old", "m", "yes")), 1)])

    def test_numbers(self):
        for word in ("1", "9", "10", "1000000", "9999999"):
            self.assertEqual(read_census(f"{word} hill child f no", self.plan).people(), int(word))

    def test_invalid_lines(self):
        bads = ["0 hill child f no", "01 hill child f no", "00 hill child f no", "10000000 hill child f no",
                "00000001 hill child f no", "-1 hill child f no", "+1 hill child f no", "1.0 hill child f no",
                "1_0 hill child f no", "x hill child f no", "hill child f no", "\u0661 hill child f no",
                "\u00b2 hill child f no", " 1 hill child f no", "1  hill child f no", "1 hill  child f no",
                "1 hill child f no ", "1 hill child f no\r", "1\thill child f no", "1 hill child f",
                "1 hill child f no no", "1 hill", "1", "1 land child f no", "1 north child f no", "1 west child f no",
                "1 hill f child no", "1 hill child f maybe", "1 hill Child f no", " ", " # remark", "1 hill child f no # x",
                "1e3 hill child f no", "1 "]
        for bad in bads:
            with self.subTest(bad):
                for text, line in ((bad, 1), (bad + "\n", 1), ("\n#\n3 hill child f no\n" + bad + "\n0\n", 4)):
                    with self.assertRaises(InvalidText) as caught:
                        read_census(text, self.plan)
                    self.assertEqual(caught.exception.line, line)

    def test_text_of_a_read_text(self):
        census = samples.land_census()
        self.assertEqual(census_text(read_census(census_text(census), self.plan)), census_text(census))

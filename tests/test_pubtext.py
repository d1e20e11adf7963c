import random
import unittest

import samples
from cellguard.counting import cells_of, counts_of, totals_of
from cellguard.errors import InvalidPublication, InvalidText
from cellguard.linking import is_possible
from cellguard.publication import Publication, publish
from cellguard.pubtext import publication_text, read_publication, report_lines
from cellguard.ranges import cell_range, determined_cells

JOBS_TEXT = (
    "totals\n"
    "total land 15\n"
    "total north 11\n"
    "total south 4\n"
    "total hill 6\n"
    "total dale 5\n"
    "table jobs\n"
    "row land 9 6\n"
    "row north 9 2\n"
    "row south 0 x\n"
    "row hill x x\n"
    "row dale 5 0\n"
)

BOTH_TEXT = (
    "totals\n"
    "total land 15\n"
    "total north 11\n"
    "total south 4\n"
    "total hill 6\n"
    "total dale 5\n"
    "table people\n"
    "row land 2 x 6 4\n"
    "row north 2 0 5 4\n"
    "row south 0 3 1 0\n"
    "row hill 2 0 0 4\n"
    "row dale 0 0 5 x\n"
    "table jobs\n"
    "row land 9 6\n"
    "row north 9 2\n"
    "row south 0 4\n"
    "row hill 4 2\n"
    "row dale 5 0\n"
)
TOTALS = BOTH_TEXT[:BOTH_TEXT.index("table")]
JOBS_PATTERN = [("south", 1), ("hill", 0), ("hill", 1)]


def jobs_publication():
    return publish(samples.land_census(), {"jobs": JOBS_PATTERN})


class TextTest(unittest.TestCase):
    def test_word_by_word(self):
        census = samples.land_census()
        self.assertEqual(publication_text(jobs_publication()), JOBS_TEXT)
        self.assertEqual(publication_text(publish(census, {})), TOTALS)
        both = publish(census, {"jobs": [], "people": [("land", 1), ("dale", 3)]})
        self.assertEqual(publication_text(both), BOTH_TEXT)

    def test_all_cells_hidden(self):
        census = samples.land_census()
        text = publication_text(publish(census, {"jobs": cells_of(census.plan, "jobs")}))
        self.assertEqual(text.split("\n")[7:], ["row land x x", "row north x x", "row south x x", "row hill x x",
                                                "row dale x x", ""])

    def test_numbers(self):
        plan = samples.flat_plan(1, 2)
        census = samples.census_of_rows(plan, {"l0": [0, 1000000]})
        self.assertEqual(publication_text(publish(census, {"t": []})),
                         "totals\ntotal top 1000000\ntotal l0 1000000\ntable t\nrow top 0 1000000\nrow l0 0 1000000\n")


class ReadTest(unittest.TestCase):
    def assert_same(self, first, second):
        self.assertIsInstance(first, Publication)
        self.assertEqual(first.totals(), second.totals())
        self.assertEqual(first.tables(), second.tables())
        for table in first.tables():
            self.assertEqual(first.cells(table), second.cells(table))

    def read(self, text):
        return read_publication(text, samples.land_plan())

    def assert_invalid(self, text, line, plan=None):
        with self.assertRaises(InvalidText) as caught:
            read_publication(text, plan or samples.land_plan())
        self.assertEqual(caught.exception.line, line)

    def test_texts_of_publications(self):
        generator = random.Random(141)
        census = samples.land_census()
        for tables in ([], ["people"], ["jobs"], ["people", "jobs"]):
            for share in (0, 0.5, 1):
                patterns = {table: [cell for cell in cells_of(census.plan, table) if generator.random() < share]
                            for table in tables}
                publication = publish(census, patterns)
                self.assert_same(self.read(publication_text(publication)), publication)
        self.assertEqual(publication_text(self.read(BOTH_TEXT)), BOTH_TEXT)

    def test_the_plan_is_the_one_that_was_given(self):
        plan = samples.land_plan()
        self.assertIs(read_publication(JOBS_TEXT, plan).plan, plan)

    def test_the_last_line_may_lack_its_newline(self):
        for text in (JOBS_TEXT, BOTH_TEXT, TOTALS):
            self.assert_same(self.read(text[:-1]), self.read(text))

    def test_texts_that_end_too_early(self):
        lines = BOTH_TEXT.split("\n")[:-1]
        self.assert_invalid("", 1)
        for many in range(1, len(lines)):
            # The totals alone, and with the first table, are whole texts.
            if many in (6, 12):
                self.read("\n".join(lines[:many]) + "\n")
            else:
                self.assert_invalid("\n".join(lines[:many]) + "\n", many + 1)
                self.assert_invalid("\n".join(lines[:many]), many + 1)

    def test_zeros(self):
        text = TOTALS.replace("15", "0").replace("11", "0").replace("4", "0").replace("6", "0").replace("total dale 5", "total dale 0")
        self.assertEqual(set(self.read(text).totals().values()), {0})
        cells = self.read(BOTH_TEXT.replace("row hill 4 2", "row hill 0 0")).cells("jobs")
        self.assertEqual((cells[("hill", 0)], cells[("hill", 1)]), (0, 0))

    def check_line(self, number, lines):
        """Each of some lines instead of the one with a number is invalid."""
        right = BOTH_TEXT.split("\n")
        for line in lines:
            self.assertNotEqual(line, right[number - 1])
            self.assert_invalid("\n".join(right[:number - 1] + [line] + right[number:]), number)

    def test_faulty_totals(self):
        self.check_line(1, ["", "total", "Totals", "totals ", " totals", "totals 1", "#", "# totals", "total land 15", "table people"])
        self.check_line(2, ["", "# land", "total north 11", "total land", "total land ", "total land 015", "total land 12345678",
                            "total land 00", "total land -1", "total land +1", "total land x", "total land 1.5", "total land  15",
                            "total  land 15", " total land 15", "total land 15 ", "total land 15 1", "totals land 15", "land 15",
                            "total moon 15", "total Land 15", "total 15", "15", "total", "row land 15", "total land 1_5",
                            "total land 15\r", "total\tland 15"])
        self.check_line(3, ["total south 4", "total land 15", "total hill 6"])
        self.check_line(6, ["table people", "total dale", "total dale x"])

    def test_faulty_tables(self):
        self.check_line(7, ["", "#", "table", "table ", "table people ", " table people", "table  people", "table people jobs",
                            "table age", "table moon", "tables people", "people", "row land 2 3 6 4", "total land 15", "totals",
                            "table People"])
        # The jobs are behind the people, and each table comes once.
        self.check_line(13, ["table people", "", "table", "row land 9 6", "total land 15"])
        self.assert_invalid(JOBS_TEXT + BOTH_TEXT[len(TOTALS):], 13)
        self.assert_invalid(JOBS_TEXT + JOBS_TEXT[len(TOTALS):], 13)

    def test_faulty_rows(self):
        self.check_line(8, ["", "# row", "row land 2 3 6", "row land 2 3 6 4 0", "row land", "row", "row land ", "row land 2 3 6 4 ",
                            " row land 2 3 6 4", "row land  2 3 6 4", "row land 2  3 6 4", "row north 2 3 6 4", "row moon 2 3 6 4",
                            "rows land 2 3 6 4", "land 2 3 6 4", "row land 2 03 6 4", "row land 2 00 6 4", "row land 2 12345678 6 4",
                            "row land 2 X 6 4", "row land 2 xx 6 4", "row land 2 -3 6 4", "row land 2 - 6 4", "row land 2 +3 6 4",
                            "row land 2 3 6 None", "total land 2 3 6 4", "table jobs", "row 2 3 6 4"])
        self.check_line(9, ["row land 2 3 6 4", "row south 0 3 1 0"])
        self.check_line(12, ["table jobs", "row land 2 3 6 4"])
        self.check_line(14, ["row land 9 6 0", "row land 9"])
        self.check_line(18, ["row dale 5", "table jobs"])

    def test_lines_behind_the_end(self):
        for line in ("", "#", "totals", "table moon", "table jobs", "row dale 5 0", "end", " ", "total land 15"):
            self.assert_invalid(BOTH_TEXT + line + "\n", 19)
            self.assert_invalid(JOBS_TEXT + line + "\n", 13)
            if line not in ("", "table jobs"):
                self.assert_invalid(TOTALS + line, 7)
        self.assert_invalid(TOTALS + "\n", 7)

    def test_the_first_faulty_line_counts(self):
        self.assert_invalid(JOBS_TEXT.replace("row north", "rows north").replace("row hill", "rows hill"), 9)
        self.assert_invalid(JOBS_TEXT.replace("total hill 6", "total hill").replace("row hill", "rows hill"), 5)

    def test_seven_digits(self):
        plan = samples.flat_plan(1, 2)
        text = "totals\ntotal top 9999999\ntotal l0 9999999\ntable t\nrow top 9999999 0\nrow l0 x 1000000\n"
        self.assertEqual(publication_text(read_publication(text, plan)), text)
        self.assert_invalid(text.replace("9999999", "10000000"), 2, plan)
        self.assert_invalid(text.replace("1000000", "10000000"), 6, plan)

    def test_publications_that_are_not_possible(self):
        for text in (JOBS_TEXT.replace("total land 15", "total land 16"), JOBS_TEXT.replace("row dale 5 0", "row dale 9 9"),
                     JOBS_TEXT.replace("total dale 5", "total dale 0")):
            publication = self.read(text)
            self.assertIs(is_possible(publication), False)
            self.assertEqual(publication_text(publication), text)


class ReportTest(unittest.TestCase):
    def test_by_hand(self):
        census = samples.land_census()
        self.assertEqual(report_lines(publish(census, {})), [])
        self.assertEqual(report_lines(publish(census, {"jobs": []})), ["jobs hidden 0 determined 0 narrowest -"])
        # The north is shown: hill has 4 to 6 and 0 to 2, dale 3 to 5 and 0 to 2.
        square = [("hill", 0), ("hill", 1), ("dale", 0), ("dale", 1)]
        self.assertEqual(report_lines(publish(census, {"jobs": square})), ["jobs hidden 4 determined 0 narrowest 2"])
        self.assertEqual(report_lines(jobs_publication()), ["jobs hidden 3 determined 3 narrowest 0"])
        # Hidden together, south has 0 to 4; the land has 15 people.
        alone = [("land", 0), ("land", 1), ("south", 0), ("south", 1)]
        self.assertEqual(report_lines(publish(census, {"jobs": alone})), ["jobs hidden 4 determined 0 narrowest 4"])
        self.assertEqual(report_lines(publish(census, {"jobs": alone + [("dale", 0)], "people": []})),
                         ["people hidden 0 determined 0 narrowest -", "jobs hidden 5 determined 1 narrowest 0"])

    def test_against_the_ranges(self):
        generator = random.Random(142)
        for _ in range(10):
            census = samples.random_census(samples.triple_plan(), generator, (0, 1, 2, 5))
            pattern = [cell for cell in cells_of(census.plan, "t") if generator.random() < 0.7]
            publication = publish(census, {"t": pattern})
            ranges = [cell_range(publication, "t", cell) for cell in pattern]
            narrowest = min(greatest - least for least, greatest in ranges)
            determined = len(determined_cells(publication, "t"))
            self.assertEqual(report_lines(publication),
                             [f"t hidden {len(pattern)} determined {determined} narrowest {narrowest}"])

    def test_publications_that_are_not_possible(self):
        census = samples.land_census()
        jobs = counts_of(census, "jobs")
        totals = totals_of(census)
        for broken in (Publication(census.plan, {**totals, "land": 3}, {}),
                       Publication(census.plan, {**totals, "land": 3}, {"jobs": dict.fromkeys(jobs)}),
                       Publication(census.plan, totals, {"jobs": {**jobs, ("hill", 0): 5}})):
            with self.assertRaises(InvalidPublication):
                report_lines(broken)

    def test_results_are_new(self):
        publication = jobs_publication()
        self.assertIs(type(report_lines(publication)), list)
        report_lines(publication).clear()
        self.assertEqual(len(report_lines(publication)), 1)

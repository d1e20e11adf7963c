import random
import unittest

import samples
from cellguard.census import Census
from cellguard.counting import cells_of
from cellguard.errors import InvalidPattern, InvalidText, Refused, UnknownName
from cellguard.office import Office
from cellguard.saving import office_text, restored_office

RULES = {"people": (3, 1, 1), "jobs": (3, 0, 2)}
JOBS_SQUARE = [("north", 0), ("north", 1), ("south", 0), ("south", 1), ("hill", 0), ("hill", 1), ("dale", 0), ("dale", 1)]
JOBS_LINES = "".join(f"hidden {area} {number}\n" for area, number in JOBS_SQUARE)


def land_office():
    return Office(samples.land_census(), RULES)


def used_office():
    """An office with two released tables, questions and refusals."""
    office = land_office()
    office.release("jobs", cells_of(samples.land_plan(), "jobs"))
    office.release("people", cells_of(samples.land_plan(), "people"))
    office.release("jobs", JOBS_SQUARE)
    office.ask("jobs", ("land", 1))
    for call in (lambda: office.ask("jobs", ("hill", 1)), lambda: office.release("jobs", []), lambda: office.release_least("people")):
        try:
            call()
        except Refused:
            pass
    office.ask("people", ("land", 2))
    return office


def restored(text, rules=None):
    return restored_office(text, samples.land_census(), rules or RULES)


class OfficeTextTest(unittest.TestCase):
    def test_no_table_released(self):
        office = land_office()
        self.assertEqual(office_text(office), "log\n")
        with self.assertRaises(Refused):
            office.release("jobs", [])
        self.assertEqual(office_text(office), "log\n- refused release jobs\n")

    def test_some_tables_released(self):
        office = land_office()
        office.release("jobs", JOBS_SQUARE)
        self.assertEqual(office_text(office), "released jobs\n" + JOBS_LINES + "log\n- release jobs 8\n")
        office.release("jobs", cells_of(samples.land_plan(), "jobs"))
        self.assertEqual(office_text(office), "released jobs\n" + JOBS_LINES + "log\n- release jobs 8\n- release jobs 10\n")

    def test_all_tables_released(self):
        # The tables are in the order of the plan, the log in the order of what was done.
        office = used_office()
        people = "".join(f"hidden {area} {number}\n" for area, number in cells_of(samples.land_plan(), "people")
                         if (area, number) != ("land", 2))
        self.assertEqual(office_text(office), "released people\n" + people + "released jobs\n" + JOBS_LINES + (
            "log\n- release jobs 10\n- release people 20\n- release jobs 8\n- ask jobs land 1\n- refused ask jobs hill 1\n"
            "- refused release jobs\n- refused release people\n- ask people land 2\n"))

    def test_nothing_hidden(self):
        office = Office(samples.land_census(), {"people": (1, 5, 5), "jobs": (0, 0, 0)})
        office.release("people", [])
        office.release("jobs", [("land", 0)])
        office.ask("jobs", ("land", 0))
        self.assertEqual(office_text(office), "released people\nreleased jobs\nlog\n- release people 0\n- release jobs 1\n- ask jobs land 0\n")

    def test_the_office_stays_as_it_is(self):
        office = used_office()
        text = office_text(office)
        self.assertEqual(office_text(office), text)
        self.assertEqual(len(office.log()), 8)


class RestoredOfficeTest(unittest.TestCase):
    def assert_same(self, first, second):
        self.assertEqual(office_text(first), office_text(second))
        self.assertEqual(first.log(), second.log())
        self.assertEqual(first.known().tables(), second.known().tables())
        self.assertEqual(first.known().totals(), second.known().totals())
        for table in first.known().tables():
            self.assertEqual(first.known().cells(table), second.known().cells(table))

    def test_of_the_text(self):
        for office in (land_office(), used_office()):
            found = restored(office_text(office))
            self.assertIsInstance(found, Office)
            self.assert_same(found, office)

    def test_later_releases_and_questions(self):
        generator = random.Random(271)
        for _ in range(4):
            office = land_office()
            found = None
            for step in range(60):
                if step % 20 == 10:
                    found = restored(office_text(office))
                table = generator.choice(("people", "jobs"))
                cells = cells_of(samples.land_plan(), table)
                cell = generator.choice(cells)
                pattern = [other for other in cells if generator.random() < generator.choice((0.9, 0.97, 1))]
                deed = generator.randrange(4)
                answers = []
                for one in (office, found or office):
                    try:
                        if deed == 0:
                            answers.append(one.release(table, pattern).cells(table))
                        elif deed == 1:
                            answers.append(one.release_least(table, most=20).cells(table))
                        else:
                            answers.append(one.ask(table, cell))
                    except (Refused, UnknownName) as error:
                        answers.append(type(error))
                if found is not None:
                    self.assertEqual(answers[0], answers[1])
                    self.assert_same(office, found)

    def test_log_lines_of_any_form(self):
        lines = ["", " ", "- ", "log", "released jobs", "hidden hill 1", "#", "release jobs 99999999999", "a\tb", "- log", "-", "\u00e4"]
        text = "released jobs\n" + JOBS_LINES + "log\n" + "".join(f"- {line}\n" for line in lines)
        office = restored(text)
        self.assertEqual(office.log(), lines)
        self.assertEqual(office_text(office), text)
        self.assertEqual(office.ask("jobs", ("land", 0)), 9)
        self.assertEqual(office.log(), lines + ["ask jobs land 0"])

    def test_the_last_newline(self):
        text = office_text(used_office())
        self.assertEqual(office_text(restored(text[:-1])), text)
        self.assertEqual(office_text(restored("log")), "log\n")
        self.assertEqual(restored("log\n- ").log(), [""])
        self.assertEqual(restored("released jobs\n" + JOBS_LINES + "log").known().hidden("jobs"), JOBS_SQUARE)

    def assert_faulty(self, text, line):
        with self.assertRaises(InvalidText, msg=text) as caught:
            restored(text)
        self.assertEqual(caught.exception.line, line, text)

    def test_faulty_lines_before_the_log(self):
        before = "released jobs\nhidden north 0\n"
        for line in ("", " ", "#", "# remark", "Log", "log ", " log", "logs", "- log", "release jobs", "released", "released jobs",
                     "released people", "released zoo", "released age", "released  people", "released people 3", "released ",
                     "hidden", "hidden north", "hidden north 1 1", "hidden  north 1", "hidden north 1 ", " hidden north 1",
                     "hidden moon 1", "hidden north 2", "hidden north x", "hidden north 01", "hidden north +1", "hidden north -1",
                     "hidden north 00000001", "hidden north 12345678", "hidden north 0", "hidden land 1", "hidden land 0", "shown north 1",
                     "Hidden north 1", "hidden 1 north", "hidden north\t1"):
            self.assert_faulty(before + line + "\nlog\n", 3)
            self.assert_faulty(before + line + "\nhidden moon 7\n", 3)
        for line in ("hidden north 0", "", "- x", "released zoo", "loge", "release jobs", "hidden jobs", "table jobs", "log jobs"):
            self.assert_faulty(line + "\nlog\n", 1)
        # A table that stands before an earlier one, and cells of another table.
        people = "released people\nhidden land 3\nreleased jobs\n"
        self.assert_faulty(people + "released people\nlog\n", 4)
        self.assert_faulty(people + "hidden land 3\nlog\n", 4)
        self.assert_faulty("released jobs\nreleased people\nlog\n", 2)

    def test_the_line_log_is_missing(self):
        for text in ("", "released jobs\n", "released jobs", "released jobs\n" + JOBS_LINES, "released people\nreleased jobs\nhidden dale 1"):
            self.assert_faulty(text, len(text.splitlines()) + 1)
        self.assert_faulty("\n", 1)

    def test_faulty_lines_behind_log(self):
        for line in ("", "-", "x", " - x", "-x", "log", "released people", "hidden hill 1", "#", "\u2013 x", "-\tx"):
            self.assert_faulty("log\n" + line + "\n", 2)
            self.assert_faulty("released jobs\n" + JOBS_LINES + "log\n- \n- y\n" + line + "\n- z\n", 13)

    def test_hidden_cells_that_are_not_safe(self):
        for text in ("released jobs\nlog\n", "released jobs\nhidden north 1\nhidden hill 1\nlog\n- x\n", "released people\nreleased jobs\n" + JOBS_LINES + "log\n"):
            with self.assertRaises(InvalidPattern):
                restored(text)
        loose = {"people": (0, 0, 0), "jobs": (1, 9, 9)}
        self.assertEqual(office_text(restored("released people\nreleased jobs\nlog\n", loose)), "released people\nreleased jobs\nlog\n")
        # A table that has not been released may have any rule.
        self.assertEqual(restored("released jobs\n" + JOBS_LINES + "log\n").known().tables(), ["jobs"])

    def test_errors_in_their_order(self):
        unsafe = "released jobs\nlog\n"
        for rules, name in (({"people": (1, 1, 1)}, "jobs"), ({**RULES, "age": (1, 1, 1)}, "age"), ({}, "jobs")):
            for text in ("nonsense\n", unsafe, "log\n", ""):
                with self.assertRaises(UnknownName) as caught:
                    restored_office(text, samples.land_census(), rules)
                self.assertEqual(caught.exception.name, name)
        self.assert_faulty(unsafe + "x\n", 3)
        self.assert_faulty("released jobs\n", 2)
        with self.assertRaises(InvalidPattern):
            restored(unsafe)

    def test_copies(self):
        census = samples.land_census()
        rules = dict(RULES)
        text = office_text(used_office())
        office = restored_office(text, census, rules)
        census.add(("hill", ("child", "f", "no")), 9)
        rules["jobs"] = (0, 0, 0)
        self.assertEqual(office_text(office), text)
        self.assertEqual(office.known().totals()["hill"], 6)
        with self.assertRaises(Refused):
            office.release("jobs", [])
        office.log().clear()
        self.assertEqual(len(office.log()), 9)

    def test_an_empty_census(self):
        plan = samples.flat_plan(2, 2)
        office = restored_office("released t\nlog\n", Census(plan, []), {"t": (5, 1, 1)})
        self.assertEqual(office.known().hidden("t"), [])

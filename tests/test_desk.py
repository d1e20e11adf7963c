import unittest

import samples
from cellguard.counting import cells_of, counts_of
from cellguard.desk import Desk
from cellguard.errors import UnknownName
from cellguard.hiding import tight_pattern
from cellguard.leastcost import least_pattern
from cellguard.office import Office
from cellguard.ranges import cell_range
from cellguard.rules import is_safe

RULES = {"people": (3, 1, 1), "jobs": (3, 0, 2)}
JOBS_SQUARE = [("north", 0), ("north", 1), ("south", 0), ("south", 1), ("hill", 0), ("hill", 1), ("dale", 0), ("dale", 1)]


def land_desk(most=None):
    if most is None:
        return Desk(samples.land_census(), RULES)
    return Desk(samples.land_census(), RULES, most=most)


class CommandsTest(unittest.TestCase):
    def test_a_new_desk(self):
        desk = land_desk()
        self.assertIsInstance(desk.office, Office)
        self.assertEqual(desk.office.log(), [])
        self.assertEqual(desk.answer("log"), ["end"])
        self.assertEqual(desk.run([]), [])
        self.assertIs(type(desk.answer("log")), list)

    def test_rules_as_of_an_office(self):
        for rules, name in (({}, "jobs"), ({**RULES, "zoo": (1, 1, 1)}, "zoo"), ({"people": (1, 1, 1)}, "jobs")):
            with self.assertRaises(UnknownName) as caught:
                Desk(samples.land_census(), rules)
            self.assertEqual(caught.exception.name, name)

    def test_tight(self):
        census = samples.land_census()
        desk = land_desk()
        for table in ("jobs", "people"):
            pattern = tight_pattern(census, table, RULES[table])
            self.assertEqual(desk.answer(f"tight {table}"), [f"hidden {len(pattern)}"])
            hidden = desk.office.known().hidden(table)
            self.assertIs(is_safe(census, table, RULES[table], hidden), True)
            self.assertEqual(len(hidden), len(pattern))
        self.assertEqual([line.split()[:2] for line in desk.office.log()], [["release", "jobs"], ["release", "people"]])

    def test_tight_a_second_time(self):
        desk = land_desk()
        desk.answer("tight jobs")
        log = desk.office.log()
        hidden = desk.office.known().hidden("jobs")
        self.assertEqual(desk.answer("tight jobs"), ["refused"])
        # The office was not asked, so it has nothing to log.
        self.assertEqual(desk.office.log(), log)
        self.assertEqual(desk.answer("least jobs"), ["refused"])
        self.assertEqual(desk.office.log(), log + ["refused release jobs"])
        self.assertEqual(desk.office.known().hidden("jobs"), hidden)

    def test_least(self):
        desk = land_desk()
        least, _ = least_pattern(samples.land_census(), "jobs", RULES["jobs"])
        self.assertEqual(desk.answer("least jobs"), [f"hidden {len(least)}"])
        self.assertEqual(desk.office.known().hidden("jobs"), least)
        self.assertEqual(desk.answer("tight jobs"), ["refused"])
        self.assertEqual(desk.answer("least jobs"), ["refused"])
        self.assertEqual(desk.office.log(), [f"release jobs {len(least)}", "refused release jobs"])

    def test_most(self):
        # 8 of the 10 cells of the jobs and more than 14 of those of the people are not protected.
        for most, jobs, people in ((None, True, False), (7, False, False), (8, True, False), (20, True, True), (0, False, False)):
            desk = land_desk(most)
            for table, fits in (("jobs", jobs), ("people", people)):
                answers = desk.answer(f"least {table}")
                if fits:
                    self.assertRegex(answers[0], "^hidden [0-9]+$")
                else:
                    self.assertEqual(answers, ["too large"])
                    self.assertNotIn(table, desk.office.known().tables())
                self.assertEqual(len(answers), 1)
            self.assertEqual(len(desk.office.log()), jobs + people)

    def test_without_most_it_is_fourteen(self):
        rows = {"l0": [1, 5, 5], "l1": [5, 5, 5], "l2": [5, 5, 5], "l3": [5, 5, 5]}
        plan = samples.flat_plan(4, 3)
        # Of the 15 cells one is protected, or none.
        self.assertEqual(Desk(samples.census_of_rows(plan, rows), {"t": (2, 1, 1)}).answer("least t"), ["hidden 4"])
        desk = Desk(samples.census_of_rows(plan, {**rows, "l0": [5, 5, 5]}), {"t": (2, 1, 1)})
        self.assertEqual(desk.answer("least t"), ["too large"])

    def test_too_large_only_if_not_released(self):
        desk = land_desk(0)
        self.assertEqual(desk.run(["least jobs", "tight jobs", "least jobs"])[::2], ["too large", "refused"])

    def test_hidden_is_the_number_in_the_known_publication(self):
        desk = land_desk()
        self.assertEqual(desk.answer("tight jobs"), [f"hidden {len(desk.office.known().hidden('jobs'))}"])
        # A rule that protects nothing hides nothing.
        desk = Desk(samples.land_census(), {"people": (0, 0, 0), "jobs": (1, 5, 5)})
        self.assertEqual(desk.run(["tight people", "least jobs"]), ["hidden 0", "hidden 0"])

    def test_ask(self):
        desk = land_desk()
        desk.office.release("jobs", JOBS_SQUARE)
        counts = counts_of(samples.land_census(), "jobs")
        for cell in cells_of(samples.land_plan(), "jobs"):
            hidden = desk.office.known().hidden("jobs")
            rest = [other for other in hidden if other != cell]
            answers = desk.answer(f"ask jobs {cell[0]} {cell[1]}")
            if is_safe(samples.land_census(), "jobs", RULES["jobs"], rest):
                self.assertEqual(answers, [f"count {counts[cell]}"])
                self.assertEqual(desk.office.known().hidden("jobs"), rest)
            else:
                self.assertEqual(answers, ["refused"])
                self.assertEqual(desk.office.known().hidden("jobs"), hidden)
        log = desk.office.log()
        self.assertEqual(len(log), 11)
        self.assertIn("refused ask jobs hill 1", log)
        self.assertIn("ask jobs land 1", log)

    def test_range(self):
        desk = land_desk()
        desk.office.release("jobs", JOBS_SQUARE)
        for area, number in cells_of(samples.land_plan(), "jobs"):
            least, greatest = cell_range(desk.office.known(), "jobs", (area, number))
            self.assertEqual(desk.answer(f"range jobs {area} {number}"), [f"range {least} {greatest}"])
        self.assertEqual(desk.office.log(), ["release jobs 8"])
        self.assertEqual(desk.answer("range jobs land 0"), ["range 9 9"])
        # A question changes what is known, and so the range.
        before = desk.answer("range jobs dale 0")
        self.assertEqual(before, ["range 0 5"])
        self.assertEqual(desk.run(["ask jobs dale 0", "range jobs dale 0"]), ["count 5", "range 5 5"])

    def test_log(self):
        desk = land_desk()
        desk.office.release("jobs", JOBS_SQUARE)
        desk.run(["ask jobs hill 1", "ask jobs land 1", "least jobs", "tight jobs", "range jobs hill 1", "what", "log"])
        lines = ["release jobs 8", "refused ask jobs hill 1", "ask jobs land 1", "refused release jobs"]
        self.assertEqual(desk.answer("log"), lines + ["end"])
        self.assertEqual(desk.office.log(), lines)

    def test_run(self):
        # Dale is not needed to hide what is protected: the cells of the land, the north and the hill are enough.
        lines = ["log", "tight jobs", "range jobs dale 0", "nonsense", "tight jobs", "ask jobs dale 0", "ask zoo dale 0",
                 "ask jobs hill 1", "log"]
        desk = land_desk()
        together = desk.run(lines)
        other = land_desk()
        self.assertEqual(together, [answer for line in lines for answer in other.answer(line)])
        hidden = len(desk.office.known().hidden("jobs"))
        least, greatest = cell_range(desk.office.known(), "jobs", ("dale", 0))
        self.assertEqual(together, ["end", f"hidden {hidden}", f"range {least} {greatest}", "what", "refused", "count 5",
                                    "unknown zoo", "refused", f"release jobs {hidden}", "ask jobs dale 0",
                                    "refused ask jobs hill 1", "end"])
        self.assertEqual((least, greatest), (5, 5))
        self.assertEqual(lines[0], "log")

    def test_copies(self):
        census = samples.land_census()
        rules = dict(RULES)
        desk = Desk(census, rules)
        census.add(("south", ("child", "m", "yes")), 50)
        rules["jobs"] = (0, 0, 0)
        rules["zoo"] = (0, 0, 0)
        pattern = tight_pattern(samples.land_census(), "jobs", RULES["jobs"])
        self.assertEqual(desk.run(["tight jobs", "ask jobs dale 0", "tight zoo"]), [f"hidden {len(pattern)}", "count 5", "unknown zoo"])
        self.assertEqual(desk.office.known().totals()["south"], 4)
        desk.answer("log").clear()
        self.assertEqual(len(desk.answer("log")), 3)


class OtherAnswersTest(unittest.TestCase):
    def test_lines_of_another_form(self):
        desk = land_desk()
        desk.office.release("jobs", JOBS_SQUARE)
        for line in ("", " ", "tight", "least", "ask", "range", "logs", "Log", "tight ", " tight jobs", "tight jobs ", "tight  jobs",
                     "tight jobs people", "tight jobs 1", "least jobs 1", "log jobs", "log ", " log", "ask jobs", "ask jobs hill",
                     "ask jobs hill ", "ask jobs hill 1 2", "ask jobs  hill 1", "ask jobs hill  1", "ask jobs hill 1 ", " ask jobs hill 1",
                     "ask jobs hill one", "ask jobs hill 01", "ask jobs hill 00", "ask jobs hill +1", "ask jobs hill -1",
                     "ask jobs hill 1_0", "ask jobs hill 1.0", "ask jobs hill 12345678", "ask jobs hill 00000001", "ask jobs hill x",
                     "ask  hill 1", "range jobs", "range jobs hill", "range jobs hill 01", "range jobs hill 12345678",
                     "range jobs hill 1 1", "hidden jobs", "release jobs", "count jobs", "jobs", "tight\tjobs", "TIGHT jobs", "end", "#",
                     "ask jobs hill \u0661", "ask jobs hill \u00b2"):
            self.assertEqual(desk.answer(line), ["what"], line)
        self.assertEqual(desk.office.log(), ["release jobs 8"])

    def test_the_form_comes_first(self):
        desk = land_desk()
        for line in ("ask zoo moon 01", "ask zoo moon x", "range zoo moon 12345678", "tight zoo x", "least zoo ", "ask people moon -1"):
            self.assertEqual(desk.answer(line), ["what"], line)

    def test_unknown_tables(self):
        desk = land_desk()
        for word in ("tight", "least"):
            for name in ("zoo", "age", "land", "Jobs", "0"):
                self.assertEqual(desk.answer(f"{word} {name}"), [f"unknown {name}"])
        desk.office.release("jobs", JOBS_SQUARE)
        for word in ("ask", "range"):
            for name in ("zoo", "people", "age"):
                # Whether there is such a cell does not matter then.
                for cell in ("hill 1", "moon 1", "hill 9999999"):
                    self.assertEqual(desk.answer(f"{word} {name} {cell}"), [f"unknown {name}"])
        self.assertEqual(desk.office.log(), ["release jobs 8"])
        # Once it is released, it is known.
        desk.answer("tight people")
        self.assertEqual(desk.answer("ask people dale 0"), ["count 0"])
        self.assertEqual(desk.answer("range people dale 0"), ["range 0 0"])

    def test_no_cell(self):
        desk = land_desk()
        desk.office.release("jobs", JOBS_SQUARE)
        for word in ("ask", "range"):
            for cell in ("moon 0", "moon 5", "land 2", "hill 9999999", "jobs 0", "Hill 0"):
                self.assertEqual(desk.answer(f"{word} jobs {cell}"), ["no cell"])
            self.assertEqual(desk.answer(f"{word} jobs land 0")[0].split()[-1], "9")
        self.assertEqual(desk.office.log(), ["release jobs 8", "ask jobs land 0"])

    def test_unknown_before_too_large(self):
        desk = land_desk(0)
        self.assertEqual(desk.run(["least zoo", "least people", "least jobs"]), ["unknown zoo", "too large", "too large"])
        self.assertEqual(desk.office.log(), [])

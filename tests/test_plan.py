import copy
import unittest

from cellguard.areas import AreaTree
from cellguard.errors import InvalidPlan, InvalidRecord, UnknownName
from cellguard.plan import Plan, read_plan

AREAS = [("land", None), ("north", "land"), ("south", "land")]
ATTRIBUTES = [("age", ["child", "adult", "old"]), ("sex", ["f", "m"]), ("work", ["no", "yes", "part"])]
TABLES = [
    ("people", [("sex", [["m"], ["f"]]), ("age", [["old", "child"], ["adult"]])]),
    ("jobs", [("work", [["yes", "part"], ["no"]])]),
]


def plan_with(areas=AREAS, attributes=ATTRIBUTES, tables=TABLES):
    return Plan(areas, attributes, tables)


class PlanTest(unittest.TestCase):
    def test_parts_are_as_they_were_given(self):
        plan = plan_with()
        self.assertIsInstance(plan.areas, AreaTree)
        self.assertEqual(plan.areas.names(), ["land", "north", "south"])
        self.assertEqual(plan.attributes(), ATTRIBUTES)
        self.assertEqual(plan.tables(), ["people", "jobs"])
        self.assertEqual(plan.dimensions("people"), TABLES[0][1])
        self.assertEqual(plan.dimensions("jobs"), TABLES[1][1])

    def test_kinds_of_the_results(self):
        plan = plan_with()
        self.assertIs(type(plan.attributes()), list)
        self.assertIs(type(plan.attributes()[0]), tuple)
        self.assertIs(type(plan.attributes()[0][1]), list)
        self.assertIs(type(plan.tables()), list)
        self.assertIs(type(plan.classes("jobs")), list)
        self.assertIs(type(plan.dimensions("jobs")), list)
        self.assertIs(type(plan.dimensions("jobs")[0]), tuple)
        self.assertIs(type(plan.dimensions("jobs")[0][1]), list)
        self.assertIs(type(plan.dimensions("jobs")[0][1][0]), list)

    def test_classes(self):
        plan = plan_with()
        self.assertEqual(plan.classes("people"), ["m/old+child", "m/adult", "f/old+child", "f/adult"])
        self.assertEqual(plan.classes("jobs"), ["yes+part", "no"])

    def test_classes_of_three_dimensions(self):
        tables = [("all", [("work", [["no"], ["yes"], ["part"]]), ("sex", [["f", "m"]]),
                           ("age", [["adult"], ["old", "child"]])])]
        self.assertEqual(plan_with(tables=tables).classes("all"), [
            "no/f+m/adult", "no/f+m/old+child", "yes/f+m/adult", "yes/f+m/old+child",
            "part/f+m/adult", "part/f+m/old+child"])

    def test_class_of(self):
        plan = plan_with()
        self.assertEqual(plan.class_of("people", ("child", "m", "no")), 0)
        self.assertEqual(plan.class_of("people", ("old", "m", "no")), 0)
        self.assertEqual(plan.class_of("people", ("adult", "m", "yes")), 1)
        self.assertEqual(plan.class_of("people", ("old", "f", "part")), 2)
        self.assertEqual(plan.class_of("people", ("adult", "f", "no")), 3)
        self.assertEqual(plan.class_of("jobs", ("adult", "f", "yes")), 0)
        self.assertEqual(plan.class_of("jobs", ("adult", "f", "part")), 0)
        self.assertEqual(plan.class_of("jobs", ("child", "m", "no")), 1)

    def test_class_of_agrees_with_the_class_names(self):
        tables = [("all", [("work", [["part"], ["no"], ["yes"]]), ("sex", [["m"], ["f"]]),
                           ("age", [["adult"], ["old", "child"]])])]
        plan = plan_with(tables=tables)
        names = {"adult": "adult", "old": "old+child", "child": "old+child"}
        for age in ("child", "adult", "old"):
            for sex in ("f", "m"):
                for work in ("no", "yes", "part"):
                    number = plan.class_of("all", (age, sex, work))
                    self.assertEqual(plan.classes("all")[number], f"{work}/{sex}/{names[age]}")

    def test_unknown_tables(self):
        plan = plan_with()
        for name in ("land", "age", "", "People"):
            for call in (plan.classes, plan.dimensions, lambda table: plan.class_of(table, ("child", "f", "no")),
                         lambda table: plan.class_of(table, ())):
                with self.subTest(name):
                    with self.assertRaises(UnknownName) as caught:
                        call(name)
                    self.assertEqual(caught.exception.name, name)

    def test_values_that_do_not_fit(self):
        plan = plan_with()
        for values in ((), ("child",), ("child", "f"), ("child", "f", "no", "no"), ("f", "child", "no"),
                       ("child", "f", "none"), ("", "f", "no"), ("child", "no", "no"), ("child+old", "f", "no")):
            for table in ("people", "jobs"):
                with self.subTest(table=table, values=values):
                    with self.assertRaises(InvalidRecord):
                        plan.class_of(table, values)

    def test_same_values_in_two_attributes(self):
        plan = plan_with(attributes=[("one", ["a", "b"]), ("two", ["b", "a"])],
                         tables=[("one", [("one", [["a"], ["b"]])]), ("two", [("two", [["b"], ["a"]])])])
        self.assertEqual(plan.class_of("one", ("a", "b")), 0)
        self.assertEqual(plan.class_of("two", ("a", "b")), 0)
        self.assertEqual(plan.class_of("two", ("a", "a")), 1)

    def test_one_group_beside_others(self):
        tables = [("people", [("sex", [["f", "m"]]), ("age", [["child"], ["adult", "old"]])])]
        self.assertEqual(plan_with(tables=tables).classes("people"), ["f+m/child", "f+m/adult+old"])

    def test_example_of_the_interface(self):
        text = "area land\narea north in land\nattribute age child adult\ntable people age\n"
        self.assertEqual(read_plan(text).classes("people"), ["child", "adult"])


class BrokenPlanTest(unittest.TestCase):
    def assert_broken(self, **parts):
        with self.assertRaises(InvalidPlan):
            plan_with(**parts)

    def test_no_parts(self):
        self.assert_broken(areas=[])
        self.assert_broken(attributes=[])
        self.assert_broken(attributes=[], tables=[])
        self.assert_broken(tables=[])

    def test_areas(self):
        self.assert_broken(areas=[("land", "land")])
        self.assert_broken(areas=[("land", None), ("north", None)])
        self.assert_broken(areas=[("land", None), ("North", "land")])

    def test_attributes(self):
        good = ("sex", ["f", "m"])
        for bad in (("age", []), ("age", ["child"]), ("age", ["child", "child"]), ("age", ["a", "b", "a"]),
                    ("Age", ["a", "b"]), ("", ["a", "b"]), ("age", ["a", "B"]), ("age", ["a", ""]),
                    ("age", ["1", "b"]), ("age", ["a", "a+b"]), ("abcdefghijklm", ["a", "b"]),
                    ("age", ["a", "abcdefghijklm"]), ("sex", ["a", "b"])):
            with self.subTest(bad):
                tables = [("people", [("sex", [["f"], ["m"]])])]
                plan_with(attributes=[good], tables=tables)
                self.assert_broken(attributes=[good, bad], tables=tables)

    def test_groupings(self):
        for bad in ([], [[]], [["child"], ["adult"]], [["child", "adult"]], [["child"], ["adult"], ["old"], ["old"]],
                    [["child", "child"], ["adult"], ["old"]], [["child"], ["adult", "old", "child"]],
                    [["child"], ["adult"], ["old"], []], [[], ["child", "adult"], ["old"]],
                    [["child"], ["adult"], ["old"], ["baby"]], [["child"], ["adult", "baby"]],
                    [["child"], ["adult"], ["f"]], [["child+adult"], ["old"]]):
            with self.subTest(bad):
                self.assert_broken(tables=[("people", [("age", bad)])])
                self.assert_broken(tables=[("people", [("sex", [["f"], ["m"]]), ("age", bad)])])

    def test_tables(self):
        sex = ("sex", [["f"], ["m"]])
        age = ("age", [["child"], ["adult", "old"]])
        for bad in ([("people", [])], [("people", [sex, ("body", [["f"], ["m"]])])], [("people", [("people", [["f"]])])],
                    [("people", [("sex", [["f", "m"]])])],
                    [("people", [("sex", [["f", "m"]]), ("age", [["child", "adult", "old"]])])],
                    [("people", [sex, sex])], [("people", [sex, ("sex", [["f", "m"]])])],
                    [("people", [sex]), ("more", [age, sex])], [("people", [sex]), ("people", [age])],
                    [("People", [sex])], [("", [sex])], [("abcdefghijklm", [sex])],
                    [("people", [sex]), ("more", [])]):
            with self.subTest(bad):
                self.assert_broken(tables=bad)

    def test_names_of_different_kinds_may_be_equal(self):
        plan = Plan([("a", None)], [("a", ["a", "b"])], [("a", [("a", [["b"], ["a"]])])])
        self.assertEqual(plan.classes("a"), ["b", "a"])


class PlanCopiesTest(unittest.TestCase):
    def test_later_changes_to_arguments(self):
        parts = [copy.deepcopy(part) for part in (AREAS, ATTRIBUTES, TABLES)]
        plan = Plan(*parts)
        areas, attributes, tables = parts
        areas.append(("west", "land"))
        attributes[0][1].append("baby")
        attributes.pop()
        tables[0][1][0][1][0].append("x")
        tables[0][1][0][1].append(["y"])
        tables[0][1].pop()
        tables.pop()
        self.assertEqual(plan.areas.names(), ["land", "north", "south"])
        self.assertEqual(plan.attributes(), ATTRIBUTES)
        self.assertEqual(plan.tables(), ["people", "jobs"])
        self.assertEqual(plan.dimensions("people"), TABLES[0][1])
        self.assertEqual(plan.classes("people"), ["m/old+child", "m/adult", "f/old+child", "f/adult"])
        self.assertEqual(plan.class_of("jobs", ("child", "f", "yes")), 0)
        with self.assertRaises(InvalidRecord):
            plan.class_of("people", ("baby", "f", "no"))

    def test_later_changes_to_results(self):
        plan = plan_with()
        attributes = plan.attributes()
        attributes[0][1].append("baby")
        attributes.pop()
        plan.tables().append("more")
        plan.classes("people").pop()
        dimensions = plan.dimensions("people")
        dimensions[0][1][0].append("x")
        dimensions[0][1].append(["y"])
        dimensions.pop()
        self.assertEqual(plan.attributes(), ATTRIBUTES)
        self.assertEqual(plan.tables(), ["people", "jobs"])
        self.assertEqual(plan.classes("people"), ["m/old+child", "m/adult", "f/old+child", "f/adult"])
        self.assertEqual(plan.dimensions("people"), TABLES[0][1])
        self.assertEqual(plan.class_of("people", ("old", "f", "no")), 2)

    def test_arguments_stay(self):
        parts = [copy.deepcopy(part) for part in (AREAS, ATTRIBUTES, TABLES)]
        Plan(*parts)
        self.assertEqual(parts, [AREAS, ATTRIBUTES, TABLES])

import unittest

import samples
from cellguard.errors import InvalidText
from cellguard.plan import Plan, plan_text, read_plan

GOOD = [
    "area land",
    "area north in land",
    "attribute age child adult old",
    "attribute sex f m",
    "table people age:child,adult+old",
    "table sexes sex",
]


def text_of(lines):
    return "".join(line + "\n" for line in lines)


class PlanTextTest(unittest.TestCase):
    def test_text_of_a_plan(self):
        self.assertEqual(plan_text(samples.land_plan()), samples.LAND_TEXT)
        self.assertEqual(plan_text(read_plan(text_of(GOOD))), text_of(GOOD))

    def test_dimensions_that_are_written_alone(self):
        attributes = [("age", ["child", "adult", "old"]), ("sex", ["f", "m"]), ("work", ["no", "yes"]),
                      ("home", ["a", "b"])]
        plan = Plan([("land", None)], attributes, [
            ("one", [("age", [["child"], ["adult"], ["old"]]), ("sex", [["m"], ["f"]])]),
            ("two", [("work", [["no"], ["yes"]]), ("home", [["a", "b"]])]),
        ])
        self.assertEqual(plan_text(plan), (
            "area land\nattribute age child adult old\nattribute sex f m\nattribute work no yes\n"
            "attribute home a b\ntable one age sex:m,f\ntable two work home:a+b\n"))
        self.assertEqual(plan_text(read_plan(plan_text(plan))), plan_text(plan))
        self.assertEqual(read_plan(plan_text(plan)).dimensions("one"), plan.dimensions("one"))

    def test_order_inside_groups_is_kept(self):
        text = "area a\nattribute b c d e\ntable t b:e+c,d\n"
        plan = read_plan(text)
        self.assertEqual(plan.dimensions("t"), [("b", [["e", "c"], ["d"]])])
        self.assertEqual(plan_text(plan), text)

    def test_reading_all_parts(self):
        plan = samples.land_plan()
        self.assertIs(type(plan), Plan)
        self.assertEqual(plan.areas.names(), ["land", "north", "south", "hill", "dale"])
        self.assertEqual(plan.areas.parent("dale"), "north")
        self.assertEqual(plan.attributes(), [("age", ["child", "adult", "old"]), ("sex", ["f", "m"]),
                                             ("work", ["no", "yes"])])
        self.assertEqual(plan.dimensions("people"), [("age", [["child"], ["adult", "old"]]), ("sex", [["f"], ["m"]])])
        self.assertEqual(plan.dimensions("jobs"), [("work", [["yes"], ["no"]])])

    def test_a_dimension_alone_and_in_full_are_the_same(self):
        full = read_plan("area a\nattribute b c d\ntable t b:c,d\n")
        self.assertEqual(full.dimensions("t"), read_plan("area a\nattribute b c d\ntable t b\n").dimensions("t"))
        self.assertEqual(plan_text(full), "area a\nattribute b c d\ntable t b\n")

    def test_skipped_lines_and_the_last_line(self):
        lines = ["", "# plan", "#", *GOOD[:2], "", "#area x", *GOOD[2:], "", "# end"]
        for text in (text_of(lines), text_of(lines)[:-1], text_of(GOOD)[:-1], text_of(GOOD) + "\n\n"):
            self.assertEqual(plan_text(read_plan(text)), text_of(GOOD))

    def test_odd_names(self):
        text = "area in\narea area in in\nattribute attribute table area\ntable table attribute\n"
        self.assertEqual(plan_text(read_plan(text)), text)


class BrokenPlanTextTest(unittest.TestCase):
    def assert_invalid(self, text, line):
        with self.assertRaises(InvalidText) as caught:
            read_plan(text)
        self.assertEqual(caught.exception.line, line, text)

    def test_a_bad_line_in_each_place(self):
        bad_lines = {
            0: ["area", "area land in", "area land in land", "area land in sea", "area Land", "area land x", "land",
                "area  land", " area land", "area land ", "area\tland", "area land\r", "Area land", "area ", " ",
                " # remark", "area land in sea x"],
            1: ["area north", "area land in land", "area north in sea", "area north in north", "area north of land",
                "area north in land land", "area north in", "area  north in land", "area north in  land",
                "area north in land ", "area 1 in land", "area north IN land", "area north land"],
            2: ["attribute", "attribute age", "attribute age child", "attribute age child child", "attribute age a A",
                "attribute Age a b", "attribute age  a b", "attribute age a b ", "attribute age a abcdefghijklm",
                "attributes age a b", "attribute age a,b", "attribute  a b", " attribute age a b", "attribute age a\tb",
                "area west", "area west in sea", "table people age"],
            3: ["attribute age a b", "attribute sex f", "attribute sex f m f", "table people age:child,adult"],
            4: ["table", "table people", "table people body", "table people age:child,adult", "table people age:",
                "table people age:child,adult,old,", "table people age:,child,adult,old", "table people age:child+adult",
                "table people age:child,adult++old", "table people age:child,adult+old+child", "table people age:child;old",
                "table people age:child+adult+old", "table people age age", "table people age age:child,adult+old",
                "table people  age", "table people age ", " table people age", "table people age: child,adult+old",
                "table people age:child,adult+old:x", "table People age", "table people age:child,adult+Old",
                "tables people age", "table people :child,adult", "table people age:child,adult+baby",
                "table people sex body", "table people age:child,,adult+old", "table people :"],
            5: ["table people sex", "table sexes age", "table sexes sex age", "table sexes sex sex", "area west in land",
                "attribute work no yes", "table sexes", "table sexes sex:f", "table sexes sex:f+m", "table sexes sex:f,m,m"],
        }
        for place, bads in bad_lines.items():
            for bad in bads:
                lines = list(GOOD)
                lines[place] = bad
                with self.subTest(bad):
                    self.assert_invalid(text_of(lines), place + 1)
                    self.assert_invalid(text_of(lines)[:-1], place + 1)
                    self.assert_invalid("# remark\n\n" + text_of(lines), place + 3)

    def test_the_first_bad_line_counts(self):
        self.assert_invalid("area land\narea north\nattribute\ntable\n", 2)
        self.assert_invalid("area land\n\nattribute a b b\nwhat\n", 3)

    def test_lines_in_another_order(self):
        self.assert_invalid(text_of([*GOOD, "area west in land"]), 7)
        self.assert_invalid(text_of([*GOOD, "attribute work no yes"]), 7)
        self.assert_invalid(text_of([*GOOD[:3], "area west in land", *GOOD[3:]]), 4)
        self.assert_invalid(text_of([*GOOD[:5], "attribute work no yes", GOOD[5]]), 6)
        self.assert_invalid("attribute age a b\narea land\ntable people age\n", 2)
        self.assert_invalid("area land\ntable people age\nattribute age a b\n", 2)

    def test_missing_parts(self):
        self.assert_invalid("", 1)
        self.assert_invalid("\n", 2)
        self.assert_invalid("# nothing", 2)
        self.assert_invalid("# nothing\n", 2)
        self.assert_invalid("# nothing\n\n\n", 4)
        self.assert_invalid("area land\n", 2)
        self.assert_invalid("area land", 2)
        self.assert_invalid("area land\nattribute age a b", 3)
        self.assert_invalid("area land\nattribute age a b\n", 3)
        self.assert_invalid("area land\nattribute age a b\n\n# end\n", 5)
        self.assert_invalid("attribute age a b\ntable people age\n", 3)
        self.assert_invalid("attribute age a b\n", 2)

    def test_lines_end_with_line_feeds_only(self):
        for other in ("\r\n", "\r", "\x0b", "\x0c", "\x85", "\u2028"):
            self.assert_invalid(other.join(GOOD) + "\n", 1)

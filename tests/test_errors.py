import unittest

from cellguard import errors


class ErrorsTest(unittest.TestCase):
    def test_base_is_a_value_error(self):
        self.assertEqual(errors.CellguardError.__bases__, (ValueError,))

    def test_all_are_direct_subclasses_of_the_base(self):
        for name in ("InvalidText", "UnknownName", "InvalidPlan", "InvalidRecord", "InvalidPattern",
                     "InvalidPublication", "InvalidFlow", "Refused", "TooLarge"):
            with self.subTest(name):
                self.assertEqual(getattr(errors, name).__bases__, (errors.CellguardError,))

    def test_invalid_text_has_its_line(self):
        error = errors.InvalidText(7)
        self.assertEqual(error.line, 7)
        self.assertIsInstance(str(error), str)

    def test_unknown_name_has_its_name(self):
        self.assertEqual(errors.UnknownName("land").name, "land")
        self.assertEqual(errors.UnknownName("").name, "")

"""The refusals: which class takes which."""

import unittest

from markbox.errors import BadMark, BadSize, BadThing, MarkError, NoBox

KINDS = (BadSize, BadMark, BadThing, NoBox)


class ErrorClasses(unittest.TestCase):
    def test_mark_error_is_a_value_error(self):
        self.assertEqual(MarkError.__bases__, (ValueError,))

    def test_each_kind_is_taken_by_mark_error_and_value_error(self):
        for kind in KINDS:
            for taker in (MarkError, ValueError):
                with self.subTest(kind=kind, taker=taker):
                    with self.assertRaises(taker):
                        raise kind("why")

    def test_no_kind_is_taken_by_another(self):
        for kind in KINDS:
            for other in KINDS:
                with self.subTest(kind=kind, other=other):
                    self.assertEqual(issubclass(kind, other), kind is other)

    def test_mark_error_is_taken_by_no_kind(self):
        for kind in KINDS:
            with self.subTest(kind=kind):
                self.assertFalse(issubclass(MarkError, kind))

    def test_each_kind_stands_right_under_mark_error(self):
        for kind in KINDS:
            with self.subTest(kind=kind):
                self.assertEqual(kind.__bases__, (MarkError,))

    def test_names_and_files(self):
        names = ["MarkError", "BadSize", "BadMark", "BadThing", "NoBox"]
        self.assertEqual([kind.__name__ for kind in (MarkError, *KINDS)], names)
        for kind in (MarkError, *KINDS):
            self.assertEqual(kind.__module__, "markbox.errors")


if __name__ == "__main__":
    unittest.main()

"""The error classes of the program (point 0.2)."""

import unittest

from galleypapers import errors

ONE_PART = {
    "FontError": "at", "GlyphError": "at", "BreakError": "at", "PageError": "at", "TableError": "at",
    "StyleError": "part", "LabelError": "label", "CircleError": "rounds", "TextError": "line",
}


class TestErrors(unittest.TestCase):
    def test_base(self):
        self.assertTrue(issubclass(errors.GalleyError, ValueError))
        for name in [*ONE_PART, "MarkError", "HyphenError", "EditError"]:
            with self.subTest(name):
                self.assertTrue(issubclass(getattr(errors, name), errors.GalleyError))

    def test_no_error_is_another(self):
        names = [*ONE_PART, "MarkError", "HyphenError", "EditError"]
        for name in names:
            for other in names:
                if name != other:
                    self.assertFalse(issubclass(getattr(errors, name), getattr(errors, other)))

    def test_one_part(self):
        for name, attribute in ONE_PART.items():
            for value in [3, "f", ("a", "b"), [[0], [1]], "-\n", ""]:
                with self.subTest(name):
                    self.assertEqual(getattr(getattr(errors, name)(value), attribute), value)

    def test_two_parts(self):
        error = errors.MarkError(3, 14)
        self.assertEqual((error.line, error.column), (3, 14))
        error = errors.HyphenError("pattern", 5)
        self.assertEqual((error.kind, error.at), ("pattern", 5))

    def test_edit(self):
        self.assertEqual(str(errors.EditError("does not fit")), "does not fit")


if __name__ == "__main__":
    unittest.main()

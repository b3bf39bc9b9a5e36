"""The errors of the interface, which the points name."""

import unittest

from undotable import errors

KINDS = ("NoCell", "BadFormula", "OffTable", "NoPoint", "NoHand", "BadNote")


class Errors(unittest.TestCase):
    def test_any_refusal_is_a_table_error_and_a_value_error(self):
        self.assertEqual(errors.TableError.__bases__, (ValueError,))
        for kind in KINDS:
            with self.subTest(kind):
                self.assertEqual(getattr(errors, kind).__bases__, (errors.TableError,))

    def test_each_is_defined_in_the_file(self):
        for kind in ("TableError",) + KINDS:
            with self.subTest(kind):
                self.assertEqual(getattr(errors, kind).__module__, "undotable.errors")

    def test_each_can_be_raised_with_words(self):
        for kind in KINDS[:-1]:
            with self.subTest(kind), self.assertRaises(errors.TableError) as caught:
                raise getattr(errors, kind)("why")
            self.assertEqual(str(caught.exception), "why")

    def test_a_bad_note_has_its_row(self):
        for row in (0, 7):
            with self.subTest(row), self.assertRaises(ValueError) as caught:
                raise errors.BadNote(row)
            self.assertEqual(caught.exception.row, row)


if __name__ == "__main__":
    unittest.main()

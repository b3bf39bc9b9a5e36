"""Point 2: cells, the stretch between two, and the cell some rows further down."""

import unittest

from undotable import errors
from undotable.cells import shifted, stretch

# One sign, three signs, a capital letter, a column or a row that the table
# does not have, signs the wrong way round, other figures than 0 to 9.
NO_CELLS = (
    "", "a", "1", " ", "a11", "aa1", "a1 ", " a1", "a1\n", "A1", "g1", "a0", "1a", "ab", "11",
    "a ", " 1", "a-", "a\u00b2", "a\u0661", "a\uff11", "\u00e41", "\uff411", "a-1", "ab1", "a12",
)

OTHERS = (errors.BadFormula, errors.OffTable, errors.NoPoint, errors.NoHand, errors.BadNote)


class Refusing(unittest.TestCase):
    def assert_no_cell(self, work, *given):
        with self.assertRaises(errors.NoCell) as caught:
            work(*given)
        self.assertIsInstance(caught.exception, errors.TableError)
        self.assertIsInstance(caught.exception, ValueError)
        self.assertNotIsInstance(caught.exception, OTHERS)


class Stretches(Refusing):
    def test_one_cell(self):
        for cell in ("a1", "c5", "f9"):
            self.assertEqual(stretch(cell, cell), [cell])

    def test_one_row(self):
        row = ["b4", "c4", "d4", "e4"]
        self.assertEqual(stretch("b4", "e4"), row)
        self.assertEqual(stretch("e4", "b4"), row)

    def test_one_column(self):
        column = ["d7", "d8", "d9"]
        self.assertEqual(stretch("d7", "d9"), column)
        self.assertEqual(stretch("d9", "d7"), column)

    def test_each_pair_of_corners_tells_the_same(self):
        cells = ["b2", "c2", "d2", "b3", "c3", "d3"]
        for one, other in (("b2", "d3"), ("d3", "b2"), ("d2", "b3"), ("b3", "d2")):
            with self.subTest(one=one, other=other):
                self.assertEqual(stretch(one, other), cells)

    def test_the_whole_table(self):
        table = [column + row for row in "123456789" for column in "abcdef"]
        self.assertEqual(len(table), 54)
        for one, other in (("a1", "f9"), ("f9", "a1"), ("f1", "a9"), ("a9", "f1")):
            with self.subTest(one=one, other=other):
                self.assertEqual(stretch(one, other), table)

    def test_every_stretch_by_its_columns_and_rows(self):
        table = [column + row for row in "123456789" for column in "abcdef"]
        for one in table:
            for other in table:
                columns, rows = zip(one, other)
                inside = [
                    cell for cell in table
                    if min(columns) <= cell[0] <= max(columns) and min(rows) <= cell[1] <= max(rows)
                ]
                self.assertEqual(stretch(one, other), inside)

    def test_what_is_no_cell_is_refused_on_either_side(self):
        for text in NO_CELLS:
            with self.subTest(repr(text)):
                self.assert_no_cell(stretch, text, "a1")
                self.assert_no_cell(stretch, "a1", text)
                self.assert_no_cell(stretch, text, text)

    def test_told_is_a_new_list_each_time(self):
        told = stretch("a1", "b2")
        self.assertIs(type(told), list)
        told.clear()
        self.assertEqual(stretch("a1", "b2"), ["a1", "b1", "a2", "b2"])


class Shifts(Refusing):
    def test_down_up_and_by_nothing(self):
        self.assertEqual(shifted("c4", 2), "c6")
        self.assertEqual(shifted("c4", -2), "c2")
        self.assertEqual(shifted("c4", 0), "c4")

    def test_to_the_last_row_and_to_the_first(self):
        self.assertEqual(shifted("a1", 8), "a9")
        self.assertEqual(shifted("f9", -8), "f1")
        self.assertEqual(shifted("f9", 0), "f9")
        self.assertEqual(shifted("a1", 0), "a1")

    def test_past_either_end(self):
        for cell, rows in (("a9", 1), ("a1", 9), ("a1", -1), ("f9", -9), ("c5", 5), ("c5", -5)):
            with self.subTest(cell=cell, rows=rows):
                self.assertEqual(shifted(cell, rows), "")

    def test_far_past_either_end(self):
        for rows in (10, 18, 100, 10 ** 12):
            with self.subTest(rows):
                self.assertEqual(shifted("b5", rows), "")
                self.assertEqual(shifted("b5", -rows), "")

    def test_every_cell_by_every_number_of_rows(self):
        for column in "abcdef":
            for row in range(1, 10):
                for rows in range(-12, 13):
                    there = f"{column}{row + rows}" if 1 <= row + rows <= 9 else ""
                    self.assertEqual(shifted(f"{column}{row}", rows), there)

    def test_what_is_no_cell_is_refused(self):
        for text in NO_CELLS:
            for rows in (0, 1, -1, 100):
                with self.subTest(repr(text), rows=rows):
                    self.assert_no_cell(shifted, text, rows)


if __name__ == "__main__":
    unittest.main()

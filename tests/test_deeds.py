"""Points 7 and 8: which cells a deed uses, what it changes, and what is refused."""

import random
import unittest

from undotable import errors
from undotable.deeds import changes, done, uses
from undotable.formulas import read

CELLS = [column + row for column in "abcdef" for row in "123456789"]
NO_CELLS = ("", "a", "a0", "g1", "A1", "a10", "1a", "a1 ", "z9", "a\u0661")
BAD_TEXTS = ("= 5", "= add a1", "05", "-0", " ", "a1", "= a0", "= sum a1 g1", "1000000", "= a1 ",
             "= " + "add 1 " * 5 + "1")


def table(**texts):
    """Contents by the texts of their cells."""
    return {cell: read(text) for cell, text in texts.items()}


FILLED = table(a1="5", a2="= b1", b1="= sum a1 c2", c3="= add a1 b2", d1="-7")


class Checked(unittest.TestCase):
    def assert_changes(self, contents, deed, rows):
        """The rows, and the contents behind the deed that they come to."""
        whole = dict(contents)
        behind = dict(contents)
        for cell, elder, newer in rows:
            self.assertEqual(contents.get(cell), elder)
            behind[cell] = newer
        behind = {cell: content for cell, content in behind.items() if content is not None}
        self.assertEqual(changes(contents, deed), rows)
        self.assertEqual(done(contents, deed), behind)
        self.assertEqual(list(contents.items()), list(whole.items()))

    def assert_refused(self, kind, work, *given):
        with self.assertRaises(errors.TableError) as caught:
            work(*given)
        self.assertIs(type(caught.exception), kind)


class Uses(Checked):
    def test_a_set_uses_its_cell(self):
        for text in ("", "5", "= sum b1 c4"):
            self.assertEqual(uses(("set", "d4", text)), ["d4"])

    def test_a_swap_uses_both_as_they_stand(self):
        self.assertEqual(uses(("swap", "a1", "b2")), ["a1", "b2"])
        self.assertEqual(uses(("swap", "b2", "a1")), ["b2", "a1"])

    def test_a_swap_of_a_cell_with_itself_uses_it_twice(self):
        self.assertEqual(uses(("swap", "c3", "c3")), ["c3", "c3"])

    def test_a_fill_uses_its_cell_and_those_below(self):
        self.assertEqual(uses(("fill", "b3", 1)), ["b3", "b4"])
        self.assertEqual(uses(("fill", "b3", 3)), ["b3", "b4", "b5", "b6"])
        self.assertEqual(uses(("fill", "f1", 8)), ["f" + row for row in "123456789"])
        self.assertEqual(uses(("fill", "a8", 1)), ["a8", "a9"])

    def test_told_is_a_new_list_each_time(self):
        for deed in (("set", "a1", "5"), ("swap", "a1", "b1"), ("swap", "a1", "a1"), ("fill", "a1", 2)):
            with self.subTest(deed):
                told = uses(deed)
                whole = list(told)
                self.assertIs(type(told), list)
                told.clear()
                self.assertEqual(uses(deed), whole)

    def test_refused_as_the_deed_is(self):
        for cell in NO_CELLS:
            with self.subTest(repr(cell)):
                self.assert_refused(errors.NoCell, uses, ("set", cell, "5"))
                self.assert_refused(errors.NoCell, uses, ("set", cell, "= 5"))
                self.assert_refused(errors.NoCell, uses, ("swap", cell, "a1"))
                self.assert_refused(errors.NoCell, uses, ("swap", "a1", cell))
                self.assert_refused(errors.NoCell, uses, ("fill", cell, 1))
                self.assert_refused(errors.NoCell, uses, ("fill", cell, 0))
        for text in BAD_TEXTS:
            with self.subTest(repr(text)):
                self.assert_refused(errors.BadFormula, uses, ("set", "a1", text))
        for cell, many in (("a1", 0), ("a1", -1), ("a1", 9), ("a9", 1), ("c5", 5), ("a1", 10 ** 12)):
            with self.subTest(cell=cell, many=many):
                self.assert_refused(errors.OffTable, uses, ("fill", cell, many))


class Sets(Checked):
    def test_an_empty_cell(self):
        self.assert_changes({}, ("set", "a1", "5"), [("a1", None, ("num", 5))])
        self.assert_changes(FILLED, ("set", "f9", "= a1"), [("f9", None, ("cell", "a1"))])

    def test_a_filled_cell(self):
        self.assert_changes(FILLED, ("set", "a1", "= sum b1 b2"), [("a1", ("num", 5), ("sum", "b1", "b2"))])

    def test_to_the_empty_text(self):
        self.assert_changes(FILLED, ("set", "a1", ""), [("a1", ("num", 5), None)])
        self.assertNotIn("a1", done(FILLED, ("set", "a1", "")))
        self.assert_changes(FILLED, ("set", "f9", ""), [])
        self.assert_changes({}, ("set", "f9", ""), [])

    def test_to_what_it_is(self):
        self.assert_changes(FILLED, ("set", "a1", "5"), [])
        self.assert_changes(FILLED, ("set", "b1", "= sum a1 c2"), [])
        # The same value, the same stretch and the same cells are not yet the same content.
        self.assert_changes(FILLED, ("set", "b1", "= sum c2 a1"),
                            [("b1", ("sum", "a1", "c2"), ("sum", "c2", "a1"))])

    def test_a_formula_that_reads_the_cell_itself(self):
        self.assert_changes(FILLED, ("set", "a1", "= a1"), [("a1", ("num", 5), ("cell", "a1"))])


class Swaps(Checked):
    def test_two_filled_cells(self):
        rows = [("a1", ("num", 5), ("sum", "a1", "c2")), ("b1", ("sum", "a1", "c2"), ("num", 5))]
        self.assert_changes(FILLED, ("swap", "a1", "b1"), rows)
        self.assert_changes(FILLED, ("swap", "b1", "a1"), rows)

    def test_formulas_go_as_they_are(self):
        self.assert_changes(FILLED, ("swap", "a2", "c3"), [
            ("a2", ("cell", "b1"), ("add", ("cell", "a1"), ("cell", "b2"))),
            ("c3", ("add", ("cell", "a1"), ("cell", "b2")), ("cell", "b1"))])

    def test_with_an_empty_cell(self):
        for deed in (("swap", "d1", "f9"), ("swap", "f9", "d1")):
            self.assert_changes(FILLED, deed, [("d1", ("num", -7), None), ("f9", None, ("num", -7))])
            self.assertNotIn("d1", done(FILLED, deed))
        self.assert_changes(FILLED, ("swap", "d1", "b9"), [("b9", None, ("num", -7)), ("d1", ("num", -7), None)])

    def test_of_two_empty_cells(self):
        self.assert_changes(FILLED, ("swap", "e8", "f9"), [])
        self.assert_changes({}, ("swap", "e8", "f9"), [])

    def test_of_a_cell_with_itself(self):
        self.assert_changes(FILLED, ("swap", "a1", "a1"), [])
        self.assert_changes(FILLED, ("swap", "f9", "f9"), [])

    def test_of_two_cells_with_the_same_content(self):
        self.assert_changes(table(a1="= c1", b1="= c1"), ("swap", "a1", "b1"), [])


class Fills(Checked):
    def test_a_number_goes_as_it_is(self):
        self.assert_changes(table(a1="5"), ("fill", "a1", 3), [
            ("a2", None, ("num", 5)), ("a3", None, ("num", 5)), ("a4", None, ("num", 5))])

    def test_the_cell_itself_stays(self):
        self.assertEqual(done(table(b2="= a1"), ("fill", "b2", 1)), table(b2="= a1", b3="= a2"))

    def test_formulas_of_all_kinds(self):
        for text, once, twice in (
            ("= c1", "= c2", "= c3"),
            ("= sum a1 c4", "= sum a2 c5", "= sum a3 c6"),
            ("= sum c4 a1", "= sum c5 a2", "= sum c6 a3"),
            ("= add a1 -3", "= add a2 -3", "= add a3 -3"),
            ("= sub 3 f7", "= sub 3 f8", "= sub 3 f9"),
            ("= mul b2 b2", "= mul b3 b3", "= mul b4 b4"),
            ("= pick a1 b2 c3 d4", "= pick a2 b3 c4 d5", "= pick a3 b4 c5 d6"),
            ("= add 1 2", "= add 1 2", "= add 1 2"),
            ("= pick 1 sub a1 b1 sum c1 d2 mul e5 add 7 f6", "= pick 1 sub a2 b2 sum c2 d3 mul e6 add 7 f7",
             "= pick 1 sub a3 b3 sum c3 d4 mul e7 add 7 f8"),
        ):
            with self.subTest(text):
                self.assert_changes(table(e1=text), ("fill", "e1", 2),
                                    [("e2", None, read(once)), ("e3", None, read(twice))])

    def test_a_formula_that_reads_the_cells_that_are_filled(self):
        self.assert_changes(table(a1="= a2", a2="9"), ("fill", "a1", 2), [
            ("a2", ("num", 9), ("cell", "a3")), ("a3", None, ("cell", "a4"))])
        self.assert_changes(table(b2="= b2"), ("fill", "b2", 1), [("b3", None, ("cell", "b3"))])

    def test_an_empty_cell_over_filled_ones(self):
        contents = table(b2="5", b4="= a1", b5="6", c2="7")
        self.assert_changes(contents, ("fill", "b1", 3), [("b2", ("num", 5), None), ("b4", ("cell", "a1"), None)])
        self.assertEqual(done(contents, ("fill", "b1", 3)), table(b5="6", c2="7"))
        self.assert_changes(contents, ("fill", "f1", 8), [])

    def test_only_those_that_become_others(self):
        contents = table(a1="= c1", a2="= c2", a3="= c1", a5="= c5")
        self.assert_changes(contents, ("fill", "a1", 4), [
            ("a3", ("cell", "c1"), ("cell", "c3")), ("a4", None, ("cell", "c4"))])

    def test_down_to_the_last_row(self):
        told = done(table(c1="= c1"), ("fill", "c1", 8))
        self.assertEqual(told, {f"c{row}": ("cell", f"c{row}") for row in range(1, 10)})
        self.assertEqual(done(table(c8="4"), ("fill", "c8", 1)), table(c8="4", c9="4"))

    def test_cells_may_come_to_the_last_row_and_not_beyond(self):
        for text in ("= f7", "= sum a1 f7", "= sum f7 a1", "= sum a7 f1", "= add 1 f7", "= pick 1 2 3 f7",
                     "= pick f7 2 3 1", "= add 1 add 2 add 3 sum a1 a7", "= mul f7 1", "= sub a1 f7"):
            with self.subTest(text):
                contents = table(a1=text)
                self.assertEqual(len(done(contents, ("fill", "a1", 2))), 3)
                for work in (changes, done):
                    self.assert_refused(errors.OffTable, work, contents, ("fill", "a1", 3))
                    self.assert_refused(errors.OffTable, work, contents, ("fill", "a1", 8))
                self.assertEqual(contents, table(a1=text))

    def test_refused_even_where_only_the_last_cell_leaves_the_table(self):
        contents = table(a1="= a9", b5="= sum b9 b1")
        for work in (changes, done):
            self.assert_refused(errors.OffTable, work, contents, ("fill", "a1", 1))
            self.assert_refused(errors.OffTable, work, contents, ("fill", "b5", 1))

    def test_too_little_and_too_great_a_number(self):
        for cell, many in (("a1", 0), ("a1", -1), ("a1", -8), ("a1", 9), ("a9", 1), ("a9", 0), ("c5", 5)):
            for contents in ({}, FILLED):
                with self.subTest(cell=cell, many=many):
                    for work in (changes, done):
                        self.assert_refused(errors.OffTable, work, contents, ("fill", cell, many))


class Told(Checked):
    def test_rows_rise_by_cells(self):
        self.assertEqual([row[0] for row in changes(FILLED, ("swap", "b1", "a2"))], ["a2", "b1"])
        self.assertEqual([row[0] for row in changes(FILLED, ("swap", "a9", "c3"))], ["a9", "c3"])
        self.assertEqual([row[0] for row in changes(FILLED, ("fill", "d1", 8))], [f"d{k}" for k in range(2, 10)])

    def test_they_are_rows_in_a_list(self):
        told = changes(FILLED, ("swap", "a1", "b1"))
        self.assertIs(type(told), list)
        self.assertEqual([type(row) for row in told], [tuple, tuple])
        self.assertIs(type(done(FILLED, ("swap", "a1", "b1"))), dict)

    def test_what_is_told_can_be_cleared(self):
        whole = dict(FILLED)
        for deed in (("set", "a1", ""), ("set", "a1", "5"), ("swap", "a1", "b1"), ("swap", "a1", "a1"),
                     ("fill", "a1", 2), ("fill", "f1", 1)):
            with self.subTest(deed):
                rows, behind = changes(FILLED, deed), done(FILLED, deed)
                again, then = list(rows), dict(behind)
                rows.clear()
                behind.clear()
                self.assertEqual(FILLED, whole)
                self.assertEqual(changes(FILLED, deed), again)
                self.assertEqual(done(FILLED, deed), then)

    def test_many_deeds_come_to_the_contents_of_their_rows(self):
        chance = random.Random(8)
        contents = {}
        texts = ("", "5", "= a1", "= sum a1 b3", "= add c2 -4", "= pick a1 b2 c3 d4")
        for _ in range(1500):
            deed = chance.choice([
                ("set", chance.choice(CELLS), chance.choice(texts)),
                ("swap", chance.choice(CELLS), chance.choice(CELLS)),
                ("fill", chance.choice(CELLS), chance.randrange(1, 5)),
            ])
            try:
                rows = changes(contents, deed)
            except errors.OffTable:
                self.assert_refused(errors.OffTable, done, contents, deed)
                continue
            self.assertEqual(rows, sorted(rows, key=lambda row: row[0]))
            self.assertTrue({row[0] for row in rows} <= set(uses(deed)))
            for _, elder, newer in rows:
                self.assertNotEqual(elder, newer)
            self.assert_changes(contents, deed, rows)
            contents = done(contents, deed)
            self.assertNotIn(None, contents.values())


if __name__ == "__main__":
    unittest.main()

"""Points 3 and 4: contents, how they are written, how they are read, their cells."""

import unittest

from undotable import errors
from undotable.formulas import read, read_cells, text_of

FIVE_DEEP = (
    "add",
    ("sub", ("mul", ("add", ("num", 1), ("cell", "f9")), ("num", 2)), ("num", 3)),
    ("pick", ("num", 0), ("num", -7), ("cell", "a1"),
     ("sub", ("num", 4), ("mul", ("sum", "a1", "b2"), ("num", 5)))),
)

PICKS_FIVE_DEEP = ("num", 9)
for _ in range(4):
    PICKS_FIVE_DEEP = ("pick", ("num", 1), ("num", 2), ("cell", "c3"), PICKS_FIVE_DEEP)

# Each content beside just the text that it is written as.
WRITTEN = (
    (None, ""),
    (("num", 0), "0"),
    (("num", 7), "7"),
    (("num", -7), "-7"),
    (("num", 10), "10"),
    (("num", -100), "-100"),
    (("num", 999999), "999999"),
    (("num", -999999), "-999999"),
    (("num", 100000), "100000"),
    (("cell", "a1"), "= a1"),
    (("cell", "f9"), "= f9"),
    (("sum", "b1", "c4"), "= sum b1 c4"),
    (("sum", "c4", "b1"), "= sum c4 b1"),
    (("sum", "a1", "a1"), "= sum a1 a1"),
    (("add", ("num", 1), ("num", -1)), "= add 1 -1"),
    (("sub", ("cell", "a1"), ("num", 0)), "= sub a1 0"),
    (("mul", ("num", -999999), ("cell", "d5")), "= mul -999999 d5"),
    (("pick", ("cell", "a1"), ("num", 3), ("cell", "b1"), ("num", -4)), "= pick a1 3 b1 -4"),
    (("add", ("cell", "a1"), ("mul", ("num", -2), ("sum", "b1", "c4"))),
     "= add a1 mul -2 sum b1 c4"),
    (("add", ("mul", ("num", -2), ("sum", "b1", "c4")), ("cell", "a1")),
     "= add mul -2 sum b1 c4 a1"),
    (("pick", ("sub", ("num", 1), ("num", 2)), ("sum", "a1", "b1"),
      ("pick", ("num", 1), ("num", 2), ("num", 3), ("num", 4)), ("mul", ("num", 5), ("num", 6))),
     "= pick sub 1 2 sum a1 b1 pick 1 2 3 4 mul 5 6"),
    (FIVE_DEEP, "= add sub mul add 1 f9 2 3 pick 0 -7 a1 sub 4 mul sum a1 b2 5"),
    (PICKS_FIVE_DEEP, "= " + "pick 1 2 c3 " * 4 + "9"),
)

BAD_NUMBERS = (
    "-0", "00", "01", "007", "-01", "-00", "0000001", "1000000", "-1000000", "1234567", "-", "--1",
    "- 1", "+1", "+0", "1.0", "1_0", "1e3", "0x1", "\u0661", "\u00b2", "\uff11", "1\u0661",
    "1-", "1-1", "12a", "five",
)

BAD_BLANKS = (
    " ", "  ", " 5", "5 ", "5\n", "\n5", "1 2", " = a1", "= a1 ", "=  a1", "= a1\n", "=\ta1", "= a1\t",
    "= add a1  b1", "= add  a1 b1", "= add a1 b1 ", "=a1", "=add a1 b1", "= ", "=  ", "\n",
    "= add\na1 b1", "= add a1\u00a0b1", "= sum a1  b1", "= sum a1 b1 ",
)

BAD_PARTS = (
    "=", "==", "= =", "= = a1", "= 5", "= 0", "= -5", "= 999999",
    "= add", "= add a1", "= add a1 b1 c1", "= add a1 b1 5", "= sub 1", "= sub 1 2 3", "= mul",
    "= mul 1 2 3", "= mul a1", "= sum", "= sum a1", "= sum a1 b1 c1", "= sum a1 5", "= sum 5 a1",
    "= sum a1 add 1 2", "= sum sum a1 b1 c1", "= pick", "= pick 1 2 3", "= pick 1 2 3 4 5",
    "= pick 1", "= a1 b1", "= a1 5", "= 5 a1", "= 5 5",
    "= add add 1 2", "= add 1 add 2", "= add add 1 2 3 4", "= add a1 sum b1",
    "a1", "add a1 b1", "sum a1 b1", "add", "a1 =", "5 =", "= a1 =",
    " a1", "a1 b1", "5 a1", "== a1", "-= a1", "add add a1 b1", "x sum a1 b1",
    "= div 1 2", "= Add 1 2", "= ADD 1 2", "= plus 1 2", "= num 5", "= cell a1", "= add num 5 1",
    "= add cell a1 1", "= None", "= odd", "= max a1 b1", "= add(a1 b1)", "= add a1, b1",
)

BAD_CELLS = (
    "= A1", "= g1", "= a0", "= a10", "= 1a", "= a", "= aa", "= sum g1 a1", "= sum a1 g1",
    "= sum a0 a1", "= sum a1 a0", "= sum a1 A1", "= sum a1 b10", "= sum a1:b1", "= add a1 g1",
    "= add a0 a1", "= pick a1 a2 a3 h4", "= a\u00b2", "= sum a1 a\uff11",
)

SIX_DEEP = (
    "= " + "add " * 5 + "1 " * 5 + "1",
    "= " + "add 1 " * 5 + "1",
    "= " + "add 1 " * 5 + "a1",
    "= " + "add 1 " * 5 + "sum a1 b1",
    "= add 1 add 2 add 3 add 4 sub 5 mul 6 7",
    "= " + "pick 1 2 3 " * 5 + "4",
    "= " + "add " * 100000 + "1 " * 100000 + "1",
    "= " + "add " * 100000,
)


def kinds(content):
    """The kind of each thing in a content, nested as the content is."""
    if type(content) is tuple:
        return [kinds(inner) for inner in content]
    return type(content)


class Written(unittest.TestCase):
    def test_each_content_is_written_so(self):
        for content, text in WRITTEN:
            with self.subTest(text):
                self.assertEqual(text_of(content), text)

    def test_what_is_read_is_the_content_and_of_its_kinds(self):
        for content, text in WRITTEN:
            with self.subTest(text):
                self.assertEqual(read(text), content)
                self.assertEqual(kinds(read(text)), kinds(content))

    def test_what_is_read_is_written_as_that_text(self):
        for _, text in WRITTEN:
            with self.subTest(text):
                self.assertEqual(text_of(read(text)), text)

    def test_every_number_of_few_figures(self):
        for number in range(-1200, 1201):
            self.assertEqual(text_of(("num", number)), str(number))
            self.assertEqual(read(str(number)), ("num", number))

    def test_numbers_in_parts_as_alone(self):
        for number in (0, -1, 10, 999999, -999999):
            with self.subTest(number):
                content = ("add", ("num", number), ("num", number))
                self.assertEqual(text_of(content), f"= add {number} {number}")
                self.assertEqual(read(f"= add {number} {number}"), content)

    def test_every_cell(self):
        for column in "abcdef":
            for row in "123456789":
                cell = column + row
                self.assertEqual(read(f"= {cell}"), ("cell", cell))
                self.assertEqual(read(f"= sum {cell} d4"), ("sum", cell, "d4"))
                self.assertEqual(read(f"= sum d4 {cell}"), ("sum", "d4", cell))

    def test_five_deep_in_each_place_of_each_word(self):
        for word, many in (("add", 2), ("sub", 2), ("mul", 2), ("pick", 4)):
            for place in range(many):
                for deepest in (("num", 9), ("cell", "b2"), ("sum", "b2", "a1")):
                    content = deepest
                    for _ in range(4):
                        parts = [("num", k) for k in range(many)]
                        parts[place] = content
                        content = (word, *parts)
                    with self.subTest(word, place=place, deepest=deepest):
                        self.assertEqual(read(text_of(content)), content)

    def test_writing_goes_somewhat_beyond_the_limits(self):
        self.assertEqual(text_of(("num", -1234567)), "-1234567")
        content = ("cell", "a1")
        for _ in range(5):
            content = ("add", ("num", 1), content)
        self.assertEqual(text_of(content), "= add 1 add 1 add 1 add 1 add 1 a1")
        self.assertEqual(read_cells(content), ["a1"])


class Refused(unittest.TestCase):
    def assert_bad(self, texts):
        for text in texts:
            with self.subTest(repr(text[:60])):
                with self.assertRaises(errors.BadFormula) as caught:
                    read(text)
                self.assertIsInstance(caught.exception, errors.TableError)
                self.assertIsInstance(caught.exception, ValueError)
                others = (errors.NoCell, errors.OffTable, errors.NoPoint, errors.NoHand, errors.BadNote)
                self.assertNotIsInstance(caught.exception, others)

    def test_numbers(self):
        self.assert_bad(BAD_NUMBERS)

    def test_numbers_in_parts(self):
        self.assert_bad([f"= add {number} 1" for number in BAD_NUMBERS])
        self.assert_bad([f"= add a1 {number}" for number in BAD_NUMBERS])

    def test_blanks(self):
        self.assert_bad(BAD_BLANKS)

    def test_parts_missing_needless_or_unknown(self):
        self.assert_bad(BAD_PARTS)

    def test_cells_that_are_none(self):
        self.assert_bad(BAD_CELLS)

    def test_six_deep(self):
        self.assert_bad(SIX_DEEP)

    def test_each_written_text_with_a_word_less_or_more(self):
        for _, text in WRITTEN:
            if text.startswith("= "):
                self.assert_bad([text.rpartition(" ")[0], text + " 1", text + " a1"])


class ReadCells(unittest.TestCase):
    def test_nothing_and_numbers_read_none(self):
        for content in (None, ("num", 0), ("add", ("num", 1), ("num", 2))):
            with self.subTest(content):
                self.assertEqual(read_cells(content), [])

    def test_one_cell(self):
        self.assertEqual(read_cells(("cell", "d4")), ["d4"])

    def test_a_sum_reads_its_stretch_in_its_order(self):
        for one, other in (("b2", "c3"), ("c3", "b2"), ("b3", "c2"), ("c2", "b3")):
            with self.subTest(one=one, other=other):
                self.assertEqual(read_cells(("sum", one, other)), ["b2", "c2", "b3", "c3"])
        self.assertEqual(read_cells(("sum", "e5", "e5")), ["e5"])

    def test_all_four_parts_of_a_pick(self):
        self.assertEqual(read_cells(read("= pick d1 c1 b1 a1")), ["d1", "c1", "b1", "a1"])

    def test_in_the_order_in_which_they_first_stand(self):
        self.assertEqual(read_cells(read("= sub f9 a1")), ["f9", "a1"])
        self.assertEqual(read_cells(read("= add add c1 a1 b1")), ["c1", "a1", "b1"])
        self.assertEqual(read_cells(read("= add b2 sum a1 b2")), ["b2", "a1", "b1", "a2"])
        self.assertEqual(read_cells(read("= mul sum b2 a1 b1")), ["a1", "b1", "a2", "b2"])

    def test_each_once(self):
        self.assertEqual(read_cells(read("= mul a1 a1")), ["a1"])
        self.assertEqual(
            read_cells(read("= pick b1 a1 add a1 b1 sum a1 c1")), ["b1", "a1", "c1"])
        self.assertEqual(
            read_cells(read("= add sum b1 c2 sum a1 b2")), ["b1", "c1", "b2", "c2", "a1", "a2"])

    def test_five_deep(self):
        self.assertEqual(read_cells(FIVE_DEEP), ["f9", "a1", "b1", "a2", "b2"])

    def test_told_is_a_new_list_each_time(self):
        for text in ("", "5", "= c3", "= sum a1 b1", "= add c3 sum a1 b1"):
            with self.subTest(text):
                content = read(text)
                told = read_cells(content)
                whole = list(told)
                self.assertIs(type(told), list)
                told.clear()
                self.assertEqual(read_cells(content), whole)
                told.append("f9")
                self.assertEqual(read_cells(content), whole)
                self.assertEqual(content, read(text))


if __name__ == "__main__":
    unittest.main()

"""Points 5 and 6: values, the cells that a change can reach, and values told anew."""

import copy
import random
import unittest

from undotable.formulas import read, read_cells
from undotable.reckon import renewed, touched, values

RING = ("odd", "ring")
WIDE = ("odd", "wide")
# Just at the border: 999999 * 1000 + 999 is 999999999.
MOST = "= add mul 999999 1000 999"
LEAST = "= sub mul -999999 1000 999"
BEYOND = "= add mul 999999 1000 1000"
CELLS = [column + row for column in "abcdef" for row in "123456789"]


def table(**texts):
    """Contents by the texts of their cells."""
    return {cell: read(text) for cell, text in texts.items()}


def plainly(contents):
    """All values, reckoned the long way from the words of point 5."""
    def comes_to(cell):
        found = set()
        new = {cell}
        while new:
            new = {inner for reader in new for inner in read_cells(contents.get(reader))} - found
            found |= new
        return found

    rings = {cell for cell in contents if cell in comes_to(cell)}

    def cut(number):
        return number if -999999999 <= number <= 999999999 else WIDE

    def of_cell(cell):
        if cell in rings:
            return RING
        return of_part(contents[cell]) if cell in contents else 0

    def of_sum(one, other):
        total = 0
        for row in sorted("123456789"):
            for column in sorted("abcdef"):
                if min(one[0], other[0]) <= column <= max(one[0], other[0]):
                    if min(one[1], other[1]) <= row <= max(one[1], other[1]):
                        value = of_cell(column + row)
                        if type(value) is tuple:
                            return value
                        total = cut(total + value)
                        if total == WIDE:
                            return WIDE
        return total

    def of_part(part):
        if part[0] == "num":
            return part[1]
        if part[0] == "cell":
            return of_cell(part[1])
        if part[0] == "sum":
            return of_sum(part[1], part[2])
        for inner in part[1:3]:
            if type(of_part(inner)) is tuple:
                return of_part(inner)
        one, other = of_part(part[1]), of_part(part[2])
        if part[0] == "pick":
            return of_part(part[3]) if one < other else of_part(part[4])
        return cut({"add": one + other, "sub": one - other, "mul": one * other}[part[0]])

    return {cell: of_cell(cell) for cell in contents}


def some_part(chance, cells, depth):
    """Any part over some cells."""
    word = chance.choice(["num", "num", "cell", "cell", "sum", "add", "sub", "mul", "pick"])
    if word == "num" or (depth == 0 and word not in ("cell", "sum")):
        return ("num", chance.choice([0, 1, -1, 2, 7, -13, 999999, -999999]))
    if word == "cell":
        return ("cell", chance.choice(cells))
    if word == "sum":
        return ("sum", chance.choice(cells), chance.choice(cells))
    return (word, *[some_part(chance, cells, depth - 1) for _ in range(4 if word == "pick" else 2)])


def some_contents(chance):
    """Any contents of a small corner of the table, where rings come about."""
    cells = [column + row for column in "abc" for row in "123"]
    filled = chance.sample(cells, chance.randrange(len(cells) + 1))
    return {cell: some_part(chance, cells, chance.randrange(3)) for cell in filled}


class Checked(unittest.TestCase):
    def assert_value(self, contents, cell, value):
        self.assertEqual(values(contents)[cell], value)
        self.assertIs(type(values(contents)[cell]), type(value))


class Numbers(Checked):
    def test_the_empty_table_has_no_values(self):
        self.assertEqual(values({}), {})

    def test_only_cells_that_are_not_empty_are_told(self):
        self.assertEqual(values(table(a1="5", b2="= c3", f9="-7")), {"a1": 5, "b2": 0, "f9": -7})

    def test_numbers(self):
        for number in (0, 1, -1, 999999, -999999):
            with self.subTest(number):
                self.assert_value({"d4": ("num", number)}, "d4", number)

    def test_empty_cells_are_read_as_0(self):
        contents = table(a1="= f9", a2="= add f9 3", a3="= sub f8 f9", a4="= mul f9 5",
                         a5="= sum e8 f9", a6="= pick f8 f9 1 2", a7="= pick 0 1 f9 3")
        self.assertEqual(
            values(contents), {"a1": 0, "a2": 3, "a3": 0, "a4": 0, "a5": 0, "a6": 2, "a7": 0})

    def test_add_sub_and_mul(self):
        contents = table(a1="7", b1="-3", c1="= add a1 b1", c2="= sub a1 b1", c3="= sub b1 a1",
                         c4="= mul a1 b1", c5="= mul b1 b1")
        told = values(contents)
        self.assertEqual([told[cell] for cell in ("c1", "c2", "c3", "c4", "c5")], [4, 10, -10, -21, 9])

    def test_pick(self):
        for text, value in (
            ("= pick 1 2 10 20", 10), ("= pick 2 1 10 20", 20), ("= pick 2 2 10 20", 20),
            ("= pick -2 -1 10 20", 10), ("= pick -1 -2 10 20", 20), ("= pick 0 -1 10 20", 20),
            ("= pick 9 10 10 20", 10),
        ):
            with self.subTest(text):
                self.assert_value(table(a1=text), "a1", value)

    def test_sums_over_rows_columns_and_both(self):
        contents = table(a1="1", b1="20", a2="300", b2="4000", c3="50000", d1="= sum a1 b1",
                         d2="= sum a1 a2", d3="= sum b2 a1", d4="= sum a2 b1", d5="= sum c3 c3",
                         d6="= sum c3 a1")
        told = values(contents)
        self.assertEqual(
            [told[cell] for cell in ("d1", "d2", "d3", "d4", "d5", "d6")],
            [21, 301, 4321, 4321, 50000, 54321])

    def test_parts_within_parts(self):
        contents = table(a1="4", b1="= add a1 mul -2 sub a1 pick a1 5 sum a1 a1 100", c1="= mul b1 b1")
        self.assertEqual(values(contents), {"a1": 4, "b1": 4, "c1": 16})

    def test_a_chain_over_the_whole_table_both_ways(self):
        for cells in (CELLS, CELLS[::-1]):
            contents = {cells[0]: ("num", 1)}
            for elder, cell in zip(cells, cells[1:]):
                contents[cell] = ("add", ("cell", elder), ("num", 1))
            for order in (contents, dict(reversed(list(contents.items())))):
                self.assertEqual(values(order), {cell: k + 1 for k, cell in enumerate(cells)})

    def test_many_ways_through_the_whole_table(self):
        # Each cell reads all ahead of it: what is reckoned once for each way never ends.
        contents = {"a1": ("num", 1)}
        for elder, cell in zip(CELLS, CELLS[1:]):
            contents[cell] = ("sub", ("cell", elder), ("sub", ("cell", elder), ("cell", elder)))
        self.assertEqual(values(contents), {cell: 1 for cell in CELLS})

    def test_the_order_of_contents_does_not_matter(self):
        contents = table(a1="= b1", b1="= c1", c1="= add d1 1", d1="6")
        told = {"a1": 7, "b1": 7, "c1": 7, "d1": 6}
        self.assertEqual(values(contents), told)
        self.assertEqual(values({cell: contents[cell] for cell in sorted(contents, reverse=True)}), told)

    def test_beyond_the_limits_of_contents_nothing_is_refused(self):
        self.assertEqual(values({"a1": ("num", 1234567)}), {"a1": 1234567})
        deep = ("cell", "b1")
        for _ in range(9):
            deep = ("add", deep, ("num", 1))
        self.assertEqual(values({"a1": deep}), {"a1": 9})


class Wide(Checked):
    def test_at_the_border_and_just_beyond_it(self):
        for text, value in (
            (MOST, 999999999), ("= add 1 mul 999999 1000", 999999001), (BEYOND, WIDE),
            (LEAST, -999999999), ("= sub mul -999999 1000 1000", WIDE),
            ("= mul 333667 2997", 999999999), ("= mul 333667 -2997", -999999999),
            ("= mul 100000 10000", WIDE), ("= mul -100000 10000", WIDE), ("= mul 99999 10000", 999990000),
            ("= mul 999999 999999", WIDE), ("= mul -999999 -999999", WIDE),
        ):
            with self.subTest(text):
                self.assert_value(table(a1=text), "a1", value)

    def test_each_word_at_the_border(self):
        for text, value in (
            ("= add a1 0", 999999999), ("= add a1 1", WIDE), ("= add a2 -1", WIDE), ("= add a2 0", -999999999),
            ("= sub a1 -1", WIDE), ("= sub a1 0", 999999999), ("= sub a2 1", WIDE), ("= sub a2 0", -999999999),
            ("= mul a1 1", 999999999), ("= mul a1 -1", -999999999), ("= mul a1 2", WIDE), ("= mul a2 2", WIDE),
            ("= mul a1 0", 0), ("= add a1 a2", 0), ("= sub a1 a1", 0), ("= sub a1 a2", WIDE),
            ("= sum a1 a1", 999999999), ("= sum a1 a2", 0), ("= pick a2 a1 a1 0", 999999999),
            ("= pick a1 a2 0 a2", -999999999), ("= a1", 999999999), ("= a2", -999999999),
        ):
            with self.subTest(text):
                self.assert_value(table(a1=MOST, a2=LEAST, b1=text), "b1", value)

    def test_of_what_is_wide_nothing_else_comes(self):
        for text in (
            "= a1", "= add a1 1", "= add 1 a1", "= sub a1 a1", "= sub 0 a1", "= mul a1 0", "= mul 0 a1",
            "= sum a1 a1", "= sum a1 b9", "= pick a1 1 2 3", "= pick 1 a1 2 3", "= pick 0 1 a1 5",
            "= pick 1 0 5 a1", "= sub add 999999 mul 999999 1000 999999", "= mul 0 mul 999999 999999",
        ):
            with self.subTest(text):
                self.assert_value(table(a1="= mul 999999 999999", c1=text), "c1", WIDE)


class Sums(Checked):
    def test_the_running_total_goes_row_by_row(self):
        # By rows: most, 1, least is wide at the second; by columns it would come to 1.
        self.assert_value(table(a1=MOST, b1="1", a2=LEAST, d1="= sum a1 b2"), "d1", WIDE)
        self.assert_value(table(a1=MOST, b1=LEAST, a2="1", d1="= sum a1 b2"), "d1", 1)
        self.assert_value(table(a1=MOST, b1=LEAST, a2="1", d1="= sum b2 a1"), "d1", 1)
        self.assert_value(table(a1=MOST, b1=LEAST, a2="1", d1="= sum a2 b1"), "d1", 1)

    def test_the_running_total_at_the_border(self):
        self.assert_value(table(a1=LEAST, b1="-1", c1="2", d1="= sum a1 c1"), "d1", WIDE)
        self.assert_value(table(a1=LEAST, b1="0", c1="0", d1="= sum a1 c1"), "d1", -999999999)
        self.assert_value(table(a1=MOST, b1="0", c1="-1", d1="= sum a1 c1"), "d1", 999999998)

    def test_it_ends_at_the_first_odd_thing(self):
        wide, ring = "= mul 999999 999999", "= b1"
        self.assert_value(table(a1=wide, b1=ring, d1="= sum a1 b1"), "d1", WIDE)
        self.assert_value(table(b1=ring, c1=wide, d1="= sum a1 c1"), "d1", RING)
        self.assert_value(table(a2=wide, b1=ring, d1="= sum a1 b2"), "d1", RING)

    def test_a_total_too_wide_ahead_of_an_odd_cell(self):
        self.assert_value(table(a1=MOST, a2="1", a3="= a3", d1="= sum a1 a3"), "d1", WIDE)
        self.assert_value(table(a1=MOST, a2="= a2", a3="1", d1="= sum a1 a3"), "d1", RING)


class TwoOddOnes(Checked):
    def test_the_first_of_two_comes(self):
        wide, ring = "= mul 999999 999999", "= b1"
        for word in ("add", "sub", "mul"):
            contents = table(a1=wide, b1=ring, c1=f"= {word} a1 b1", c2=f"= {word} b1 a1",
                             c3=f"= {word} 5 b1", c4=f"= {word} a1 5")
            with self.subTest(word):
                told = values(contents)
                self.assertEqual([told[cell] for cell in ("c1", "c2", "c3", "c4")], [WIDE, RING, RING, WIDE])

    def test_the_first_of_the_two_that_pick_compares(self):
        wide, ring = "= mul 999999 999999", "= b1"
        for text, value in (
            ("= pick a1 b1 1 2", WIDE), ("= pick b1 a1 1 2", RING), ("= pick 1 b1 a1 a1", RING),
            ("= pick a1 1 b1 b1", WIDE), ("= pick 1 a1 b1 b1", WIDE), ("= pick b1 1 a1 a1", RING),
        ):
            with self.subTest(text):
                self.assert_value(table(a1=wide, b1=ring, c1=text), "c1", value)

    def test_of_the_other_two_only_the_chosen_one_counts(self):
        wide, ring = "= mul 999999 999999", "= b1"
        for text, value in (
            ("= pick 1 2 7 a1", 7), ("= pick 1 2 7 b1", 7), ("= pick 2 1 a1 7", 7), ("= pick 2 1 b1 7", 7),
            ("= pick 1 2 a1 b1", WIDE), ("= pick 2 1 a1 b1", RING), ("= pick 1 2 7 mul 999999 999999", 7),
            ("= pick 2 2 sum a1 b1 7", 7),
        ):
            with self.subTest(text):
                self.assert_value(table(a1=wide, b1=ring, c1=text), "c1", value)

    def test_within_parts(self):
        wide, ring = "= mul 999999 999999", "= b1"
        for text, value in (
            ("= add mul 999999 999999 b1", WIDE), ("= add b1 mul 999999 999999", RING),
            ("= sub add 1 b1 a1", RING), ("= mul pick 1 2 a1 b1 b1", WIDE),
        ):
            with self.subTest(text):
                self.assert_value(table(a1=wide, b1=ring, c1=text), "c1", value)


class Rings(Checked):
    def test_a_cell_that_reads_itself(self):
        for text in ("= b2", "= add 1 b2", "= sub b2 b2", "= mul 0 b2", "= sum b2 b2", "= sum a1 c3",
                     "= pick b2 1 2 3", "= pick 1 2 3 b2", "= pick 1 0 b2 3"):
            with self.subTest(text):
                self.assertEqual(values(table(b2=text)), {"b2": RING})

    def test_rings_of_two_and_more(self):
        self.assertEqual(values(table(a1="= b1", b1="= a1")), {"a1": RING, "b1": RING})
        for many in (3, 7, 54):
            cells = CELLS[:many]
            contents = {cell: ("cell", after) for cell, after in zip(cells, cells[1:] + cells[:1])}
            with self.subTest(many):
                self.assertEqual(values(contents), {cell: RING for cell in cells})

    def test_a_cell_that_only_reads_a_ring(self):
        contents = table(a1="= b1", b1="= a1", c1="= pick 1 2 5 a1", c2="= pick 2 1 5 a1", c3="= c1", c4="= c2")
        self.assertEqual(values(contents), {
            "a1": RING, "b1": RING, "c1": 5, "c2": RING, "c3": 5, "c4": RING})

    def test_what_a_ring_reads_is_not_in_it(self):
        contents = table(a1="= add b1 c1", b1="= a1", c1="= add d1 1", d1="5")
        self.assertEqual(values(contents), {"a1": RING, "b1": RING, "c1": 6, "d1": 5})

    def test_a_ring_is_ahead_of_what_is_wide(self):
        self.assertEqual(values(table(a1="= add mul 999999 999999 a1")), {"a1": RING})
        self.assertEqual(values(table(a1="= add b1 a1", b1="= mul 999999 999999")), {"a1": RING, "b1": WIDE})

    def test_between_two_rings(self):
        contents = table(a1="= a1", b1="= pick 1 2 a1 c1", c1="= c1", d1="= pick 1 2 8 b1")
        self.assertEqual(values(contents), {"a1": RING, "b1": RING, "c1": RING, "d1": 8})
        # A cell between two rings is in a ring only where the second reads back to it.
        contents = table(a1="= a1", b1="= pick 1 2 9 add a1 c1", c1="= c1")
        self.assertEqual(values(contents), {"a1": RING, "b1": 9, "c1": RING})
        contents = table(a1="= a1", b1="= pick 1 2 9 add a1 c1", c1="= pick 1 2 3 b1")
        self.assertEqual(values(contents), {"a1": RING, "b1": RING, "c1": RING})

    def test_two_rings_with_one_cell_in_both(self):
        contents = table(a1="= add b1 c1", b1="= a1", c1="= a1", d1="= pick 1 0 a1 4")
        self.assertEqual(values(contents), {"a1": RING, "b1": RING, "c1": RING, "d1": 4})

    def test_through_the_stretch_of_a_sum(self):
        contents = table(a1="= sum b1 c3", b2="1", c2="= add 1 a1", d1="= b2")
        self.assertEqual(values(contents), {"a1": RING, "b2": 1, "c2": RING, "d1": 1})
        # The stretch ends just ahead of the cell that would close the ring.
        contents = table(a1="= sum b1 c3", c4="= add 1 a1", b1="2")
        self.assertEqual(values(contents), {"a1": 2, "c4": 3, "b1": 2})

    def test_through_the_part_of_a_pick_that_is_not_chosen(self):
        contents = table(a1="= pick 1 2 5 b1", b1="= a1", c1="= a1")
        self.assertEqual(values(contents), {"a1": RING, "b1": RING, "c1": RING})
        contents = table(a1="= pick 2 1 b1 5", b1="= pick 1 2 5 a1")
        self.assertEqual(values(contents), {"a1": RING, "b1": RING})

    def test_an_empty_cell_closes_no_ring(self):
        self.assertEqual(values(table(a1="= b1", c1="= a1")), {"a1": 0, "c1": 0})


class HandedInAndTold(unittest.TestCase):
    def test_contents_unchanged(self):
        contents = table(a1="= b1", b1="= sum a1 c1", c1="5", d1="= pick c1 6 7 a1", e1="= mul 999999 999999")
        whole = copy.deepcopy(contents)
        elder = values(contents)
        worths = dict(elder)
        changed = ["c1", "f9"]
        touched(contents, changed)
        renewed(contents, elder, changed)
        self.assertEqual(contents, whole)
        self.assertEqual(list(contents), list(whole))
        self.assertEqual(elder, worths)
        self.assertEqual(changed, ["c1", "f9"])

    def test_what_is_told_can_be_cleared(self):
        contents = table(a1="= b1", b1="4", c1="= c1")
        whole = dict(contents)
        told = values(contents)
        self.assertIs(type(told), dict)
        self.assertIsNot(told, contents)
        told.clear()
        self.assertEqual(values(contents), {"a1": 4, "b1": 4, "c1": RING})
        for changed in ([], ["b1"], ["a1", "b1", "c1"]):
            elder = values(contents)
            told = touched(contents, changed)
            again = list(told)
            self.assertIs(type(told), list)
            told.clear()
            self.assertEqual(touched(contents, changed), again)
            told = renewed(contents, elder, changed)
            self.assertIs(type(told), dict)
            told.clear()
            self.assertEqual(elder, {"a1": 4, "b1": 4, "c1": RING})
            self.assertEqual(renewed(contents, elder, changed), elder)
        self.assertEqual(contents, whole)
        changed = ["b1"]
        touched(contents, changed).clear()
        self.assertEqual(changed, ["b1"])


class Touched(unittest.TestCase):
    def test_none_where_nothing_changed_or_nothing_is_filled(self):
        self.assertEqual(touched({}, []), [])
        self.assertEqual(touched({}, ["a1", "b2"]), [])
        self.assertEqual(touched(table(a1="5", b1="= a1"), []), [])

    def test_a_changed_cell_itself(self):
        contents = table(a1="5", b1="6")
        self.assertEqual(touched(contents, ["a1"]), ["a1"])
        self.assertEqual(touched(contents, ["b1", "a1"]), ["a1", "b1"])
        self.assertEqual(touched(contents, ["b1", "b1"]), ["b1"])

    def test_by_reading_along_a_chain(self):
        contents = table(a1="5", b1="= a1", c1="= add 1 b1", d1="= c1", e1="7", f1="= e1")
        self.assertEqual(touched(contents, ["a1"]), ["a1", "b1", "c1", "d1"])
        self.assertEqual(touched(contents, ["c1"]), ["c1", "d1"])
        self.assertEqual(touched(contents, ["d1"]), ["d1"])
        self.assertEqual(touched(contents, ["e1", "c1"]), ["c1", "d1", "e1", "f1"])

    def test_an_empty_changed_cell_touches_those_that_read_it(self):
        contents = table(b1="= a1", c1="= b1", d1="5")
        self.assertEqual(touched(contents, ["a1"]), ["b1", "c1"])
        self.assertEqual(touched(contents, ["f9"]), [])

    def test_through_sums_and_parts_not_chosen(self):
        contents = table(a1="= sum b1 c3", d1="= pick 1 2 5 a1", e1="= pick 1 2 5 b4")
        self.assertEqual(touched(contents, ["c3"]), ["a1", "d1"])
        self.assertEqual(touched(contents, ["b4"]), ["e1"])
        self.assertEqual(touched(contents, ["c4"]), [])

    def test_through_rings(self):
        contents = table(a1="= b1", b1="= add a1 c1", c1="5", d1="= a1", e1="5")
        self.assertEqual(touched(contents, ["c1"]), ["a1", "b1", "c1", "d1"])
        self.assertEqual(touched(contents, ["a1"]), ["a1", "b1", "d1"])
        self.assertEqual(touched(table(a1="= a1", b1="= b1"), ["a1"]), ["a1"])

    def test_rising_whatever_the_order_of_contents_and_changed(self):
        texts = {"f1": "= a9", "a9": "1", "b2": "= a9", "a1": "= f1", "c1": "= b2", "b1": "= a9"}
        told = ["a1", "a9", "b1", "b2", "c1", "f1"]
        for cells in (sorted(texts), sorted(texts, reverse=True), list(texts)):
            contents = table(**{cell: texts[cell] for cell in cells})
            self.assertEqual(touched(contents, ["a9"]), told)
            self.assertEqual(touched(contents, cells), told)


class Renewed(unittest.TestCase):
    def assert_renewed(self, before, after, changed):
        anew = renewed(after, values(before), changed)
        self.assertEqual(anew, values(after))
        self.assertEqual(anew, plainly(after))

    def test_a_change_along_a_chain(self):
        before = table(a1="5", b1="= a1", c1="= add b1 1", d1="9")
        self.assert_renewed(before, {**before, "a1": ("num", 6)}, ["a1"])
        self.assertEqual(renewed({**before, "a1": ("num", 6)}, values(before), ["a1"]),
                         {"a1": 6, "b1": 6, "c1": 7, "d1": 9})

    def test_nothing_changed(self):
        before = table(a1="5", b1="= a1", c1="= c1")
        self.assert_renewed(before, before, [])
        self.assert_renewed({}, {}, [])
        # More cells may be told as changed than did change.
        self.assert_renewed(before, before, ["a1", "b1", "c1", "f9"])

    def test_a_cell_emptied_and_a_cell_filled(self):
        before = table(a1="5", b1="= a1", c1="= b1")
        after = table(b1="= a1", c1="= b1")
        self.assertEqual(renewed(after, values(before), ["a1"]), {"b1": 0, "c1": 0})
        self.assertEqual(renewed(before, values(after), ["a1"]), {"a1": 5, "b1": 5, "c1": 5})
        self.assertEqual(renewed({}, values(before), ["a1", "b1", "c1"]), {})
        self.assertEqual(renewed(before, {}, ["a1", "b1", "c1"]), {"a1": 5, "b1": 5, "c1": 5})

    def test_a_ring_opened_and_closed(self):
        closed = table(a1="= b1", b1="= c1", c1="= a1", d1="= a1", e1="= pick 1 2 6 a1")
        opened = {**closed, "c1": ("num", 3)}
        self.assertEqual(renewed(opened, values(closed), ["c1"]),
                         {"a1": 3, "b1": 3, "c1": 3, "d1": 3, "e1": 6})
        self.assertEqual(renewed(closed, values(opened), ["c1"]),
                         {"a1": RING, "b1": RING, "c1": RING, "d1": RING, "e1": 6})
        emptied = {cell: closed[cell] for cell in closed if cell != "c1"}
        self.assertEqual(renewed(emptied, values(closed), ["c1"]), {"a1": 0, "b1": 0, "d1": 0, "e1": 6})
        self.assertEqual(renewed(closed, values(emptied), ["c1"]), values(closed))

    def test_a_ring_beside_what_changed_stays(self):
        before = table(a1="= b1", b1="= a1", c1="5", d1="= pick c1 6 8 a1")
        after = {**before, "c1": ("num", 7)}
        self.assertEqual(renewed(after, values(before), ["c1"]), {"a1": RING, "b1": RING, "c1": 7, "d1": RING})

    def test_what_is_not_touched_is_taken_from_the_elder_values(self):
        before = table(a1="5", b1="= a1", c1="6", d1="= c1")
        elder = {**values(before), "c1": 60, "d1": 61}
        self.assertEqual(renewed({**before, "a1": ("num", 9)}, elder, ["a1"]), {"a1": 9, "b1": 9, "c1": 60, "d1": 61})


class ManyContents(unittest.TestCase):
    def test_values_as_by_the_long_way(self):
        chance = random.Random(5)
        for _ in range(1500):
            contents = some_contents(chance)
            whole = dict(contents)
            self.assertEqual(values(contents), plainly(contents), contents)
            self.assertEqual(contents, whole)

    def test_touched_and_renewed_as_anew(self):
        chance = random.Random(6)
        for _ in range(1500):
            before, after = some_contents(chance), some_contents(chance)
            cells = sorted(set(before) | set(after))
            kept = chance.sample(cells, chance.randrange(len(cells) + 1))
            for cell in kept:
                after.pop(cell, None)
                if cell in before:
                    after[cell] = before[cell]
            changed = [cell for cell in cells if before.get(cell) != after.get(cell)]
            chance.shuffle(changed)
            elder, newer = values(before), values(after)
            self.assertEqual(renewed(after, elder, changed), newer, (before, after))
            told = touched(after, changed)
            self.assertEqual(told, sorted(set(told)))
            self.assertTrue(set(told) <= set(after))
            for cell in after:
                if cell not in told:
                    self.assertEqual(newer[cell], elder[cell])


if __name__ == "__main__":
    unittest.main()

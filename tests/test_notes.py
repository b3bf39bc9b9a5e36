"""Point 15: trees as texts."""

import random
import unittest

from given import Checked, all_told, chain, forked, some_tree, table
from undotable import errors
from undotable.joining import joined
from undotable.middle import without
from undotable.notes import read, written
from undotable.tree import Tree

# Each kind of content, and nothing, as the texts that a set may have.
TEXTS = (
    "", "0", "5", "-5", "999999", "-999999", "= a1", "= f9", "= sum a1 a1", "= sum f9 a1", "= add a1 2",
    "= sub -2 a1", "= mul b2 b3", "= pick 1 2 a1 -4", "= add a1 mul -2 sum b1 c4",
    "= add sub mul add 1 2 3 4 5", "= pick pick 1 2 3 4 sum a1 b2 add c1 c2 0")


def note(*rows):
    """A text of some rows."""
    return "\n".join(rows)


class Written(Checked):
    def test_a_new_tree(self):
        self.assertEqual([written(Tree(hands)) for hands in (1, 2, 3, 4)], [
            "hands 0", "hands 0 0", "hands 0 0 0", "hands 0 0 0 0"])

    def test_rows_with_line_ends_between(self):
        self.assertEqual(written(forked()), note(
            "hands 6 5",
            "from 0 by 0: set a1 to 5",
            "from 1 by 0: set b1 to = a1",
            "from 2 by 0: swap a1 c1",
            "from 1 by 1: fill a1 2",
            "from 4 by 1: set a1 to ",
            "from 0 by 0: set f9 to -7"))

    def test_hands_where_they_stand(self):
        tree = Tree(4)
        for number in range(11):
            tree.do(0, ("set", "a1", str(number)))
        tree.go(2, 10)
        tree.go(3, 4)
        self.assertEqual(written(tree).split("\n")[0], "hands 11 0 10 4")
        self.assertEqual(written(tree).split("\n")[11], "from 10 by 0: set a1 to 10")

    def test_each_text_of_a_set(self):
        for text in TEXTS:
            tree = chain(("set", "c4", text))
            self.assertEqual(written(tree), note("hands 1", "from 0 by 0: set c4 to " + text))

    def test_it_tells_a_text_and_changes_nothing(self):
        tree = forked()
        whole = all_told(tree, 2)
        self.assertIs(type(written(tree)), str)
        self.assertEqual(all_told(tree, 2), whole)

    def test_behind_a_deed_taken_out_and_a_join(self):
        tree = forked()
        without(tree, 1, 1, 3, False)
        joined(tree, 0, 6, 2)
        self.assertEqual(written(tree).split("\n")[7:], [
            "from 0 by 1: set b1 to = a1", "from 7 by 1: swap a1 c1",
            "from 6 by 0: set a1 to 5", "from 9 by 0: set b1 to = a1"])
        self.assertEqual(written(tree).split("\n")[0], "hands 10 8")


class Read(Checked):
    def assert_same(self, tree, hands):
        text = written(tree)
        again = read(text)
        self.assertIs(type(again), Tree)
        self.assertEqual(all_told(again, hands), all_told(tree, hands))
        self.assert_refused(errors.NoHand, again.here, hands)
        self.assertEqual(written(again), text)
        return again

    def test_new_trees(self):
        for hands in (1, 2, 3, 4):
            self.assert_same(Tree(hands), hands)

    def test_a_text(self):
        tree = read(note(
            "hands 2 0 3", "from 0 by 2: set a1 to = b1", "from 0 by 0: set a1 to ", "from 1 by 1: fill a1 2"))
        self.assertEqual([tree.here(hand) for hand in range(3)], [2, 0, 3])
        self.assertEqual([tree.told(point) for point in (1, 2, 3)], [
            (0, 2, ("set", "a1", "= b1")), (0, 0, ("set", "a1", "")), (1, 1, ("fill", "a1", 2))])
        self.assertEqual([tree.table(point) for point in range(4)], [
            {}, table(a1="= b1"), {}, table(a1="= b1", a2="= b2", a3="= b3")])
        self.assertEqual(tree.worths(3), {"a1": 0, "a2": 0, "a3": 0})
        self.assertEqual(tree.do(2, ("swap", "a1", "a1")), 4)

    def test_each_text_of_a_set(self):
        for text in TEXTS:
            self.assert_same(chain(("set", "c4", text), ("swap", "c4", "d4")), 1)

    def test_each_deed(self):
        for deed in (
            ("swap", "a1", "f9"), ("swap", "b2", "b2"), ("fill", "a1", 1), ("fill", "f1", 8), ("fill", "c8", 1),
        ):
            tree = self.assert_same(chain(deed), 1)
            self.assertEqual(tree.told(1), (0, 0, deed))

    def test_hands_that_stand_elsewhere_than_at_their_last_points(self):
        tree = forked()
        for one in range(7):
            for other in range(7):
                tree.go(0, one)
                tree.go(1, other)
                self.assert_same(tree, 2)

    def test_any_trees(self):
        chance = random.Random(15)
        for hands in (1, 2, 3, 4):
            for many in (2, 10, 80):
                tree = some_tree(chance, hands, many)
                for hand in range(hands):
                    tree.go(hand, chance.randrange(many))
                self.assert_same(tree, hands)

    def test_a_tree_with_deeds_taken_out_and_joined_points(self):
        chance = random.Random(16)
        for _ in range(20):
            tree = some_tree(chance, 2, 20)
            point = chance.randrange(1, 20)
            without(tree, 0, chance.choice(tree.trail(point)[1:]), point, chance.choice([True, False]))
            joined(tree, 1, chance.randrange(20), tree.many() - 1)
            again = self.assert_same(tree, 2)
            told = [joined(either, 0, 3, 17) for either in (tree, again)]
            self.assertEqual(told[0], told[1])
            self.assertEqual(written(again), written(tree))

    def test_more_points_than_eighty_raise_nothing(self):
        tree = Tree(1)
        for number in range(1, 91):
            tree.do(0, ("set", "a1", str(number)))
        self.assert_same(tree, 1)

    def test_each_tree_is_new(self):
        text = written(forked())
        one, other = read(text), read(text)
        one.do(0, ("set", "a1", "5"))
        self.assertEqual(other.many(), 7)
        self.assertEqual(written(other), text)


class Refused(Checked):
    GOOD = ("hands 1 0", "from 0 by 0: set a1 to = b1", "from 1 by 1: swap a1 c2", "from 0 by 0: fill a1 3")

    def assert_row(self, row, *rows):
        with self.subTest(rows):
            with self.assertRaises(errors.TableError) as caught:
                read(note(*rows))
            self.assertIs(type(caught.exception), errors.BadNote)
            self.assertEqual(caught.exception.row, row)
            self.assertIs(type(caught.exception.row), int)

    def assert_bad(self, text):
        """A row that is refused wherever it stands behind the first one."""
        for at in (1, 2, 3):
            self.assert_row(at, *self.GOOD[:at], text)
            self.assert_row(at, *self.GOOD[:at], text, *self.GOOD[at:])

    def test_the_good_rows_are_read(self):
        for many in (2, 3, 4):
            self.assertEqual(written(read(note(*self.GOOD[:many]))), note(*self.GOOD[:many]))

    def test_a_first_row_that_is_none(self):
        for first in (
            "", " ", "hand 0", "Hands 0", "HANDS 0", "hands0", " hands 0", "hands", "hands ", "hands  ", "hands 0 ",
            "hands  0", "hands 0  0", "hands\t0", "hands 0\t0", "hands 0,0", "hands: 0", "hands a", "hands 0 a1",
            "hands +0", "hands -0", "hands -1", "hands 0.0", "hands 0\r", "hands \u0660", "hands \u00b2",
            "from 0 by 0: set a1 to 5",
        ):
            self.assert_row(0, first)
            self.assert_row(0, first, *self.GOOD[1:])
            self.assert_row(0, first, "from 0 by 0: swap a1", "what")

    def test_too_many_hands(self):
        for hands in (5, 6, 100):
            self.assert_row(0, "hands" + " 0" * hands)
            self.assert_row(0, "hands" + " 0" * hands, *self.GOOD[1:])
            self.assert_row(0, "hands" + " 0" * hands, "what")

    def test_needless_noughts_of_a_hands_point(self):
        for first in ("hands 00", "hands 01", "hands 0 01", "hands 00 0", "hands 1 000", "hands 0001"):
            self.assert_row(0, first, *self.GOOD[1:])
            self.assert_row(0, first, "what")

    def test_a_point_that_there_is_not_yet(self):
        for point in (1, 2, 3, 10, 80, 10 ** 6, 10 ** 9, 10 ** 30):
            self.assert_row(1, "hands 0 0", f"from {point} by 0: set a1 to 5")
            self.assert_row(1, "hands 0 0", f"from {point} by 0: set a1 to 5", *self.GOOD[1:])
        for point in (3, 4):
            self.assert_row(3, *self.GOOD[:3], f"from {point} by 0: set a1 to 5", *self.GOOD[1:])
        self.assertEqual(read(note(*self.GOOD[:3], "from 2 by 0: set a1 to 5")).many(), 4)

    def test_a_hand_that_there_is_not(self):
        for hand in (2, 3, 4, 10, 10 ** 30):
            self.assert_bad(f"from 0 by {hand}: set a1 to 5")
        self.assert_row(1, "hands 0", "from 0 by 1: set a1 to 5")
        self.assertEqual(read(note("hands 0 0 0 0", "from 0 by 3: set a1 to 5")).told(1)[1], 3)

    def test_a_row_of_another_form(self):
        for text in (
            "", " ", "from", "from 0 by 0", "from 0 by 0:", "from 0 by 0: ", "from 0 by 0: set", "from 0 by 0: set a1",
            "from 0 by 0: set a1 5", "from 0 by 0: set a1 is 5", "from 0 by 0: set a1 To 5", "from 0 by 0: Set a1 to 5",
            "from 0 by 0: put a1 to 5", "from 0 by 0 set a1 to 5", "From 0 by 0: set a1 to 5",
            "from 0 By 0: set a1 to 5",
            "from 0: by 0: set a1 to 5", "from 0 by 0:: set a1 to 5", "from 0 by 0:set a1 to 5",
            "from 0 by : set a1 to 5",
            "from 0 by :0 set a1 to 5", "from  by 0: set a1 to 5", "from by 0: swap a1 b1", "by 0: swap a1 b1",
            "0 0: set a1 to 5", "set a1 to 5", "hands 0 0", "from 0 by 0: swap a1", "from 0 by 0: swap a1 b1 c1",
            "from 0 by 0: swap a1 to b1", "from 0 by 0: swap a1 and b1", "from 0 by 0: fill a1",
            "from 0 by 0: fill a1 b1",
            "from 0 by 0: fill a1 to 3", "from 0 by 0: fill a1 1 2", "from 0 by 0: fill a1 3 rows", "from 0 by 0: fill",
            "from 0 by 0: set to 5", "from 0 by 0: swap", "at 0 by 0: swap a1 b1", "to 0 by 0: swap a1 b1",
            "from 0 at 0: swap a1 b1", "from 0 of 0: swap a1 b1", "from 0 by 0: swap a1 to 5",
            "from 0 by 0: set a1 under 5", "from 0 by 0: swop a1 b1", "from 0 by 0: move a1 b1",
            "from 0 by 0: fall a1 3", "from 0 by 0: full a1 3",
        ):
            self.assert_bad(text)

    def test_nothing_keeps_its_blank(self):
        self.assertEqual(read(note("hands 1", "from 0 by 0: set a1 to ")).told(1), (0, 0, ("set", "a1", "")))
        self.assert_bad("from 0 by 0: set a1 to")
        self.assert_bad("from 0 by 0: set a1 to  ")

    def test_needless_blanks(self):
        for row in self.GOOD[1:] + ("from 0 by 0: set a1 to 5", "from 0 by 0: set a1 to = add a1 5"):
            for at in range(len(row) + 1):
                if at == len(row) or row[at] == " " or at == 0:
                    self.assert_row(1, "hands 0 0", row[:at] + " " + row[at:])
        self.assert_bad("from 0 by 0 : set a1 to 5")
        self.assert_bad("from 0 by 0: set a1\tto 5")
        self.assert_bad("from 0 by 0: set a1 to 5\t")
        self.assert_bad("from 0 by 0: set a1 to 5\r")
        self.assert_bad("from 0 by 0: swap a1 b1\r")
        self.assert_bad("from 0 by 0: swap a1\u2028b1")

    def test_needless_noughts(self):
        for text in (
            "from 00 by 0: set a1 to 5", "from 0 by 00: set a1 to 5", "from 0 by 01: set a1 to 5",
            "from 0 by 0: set a1 to 05", "from 0 by 0: fill a1 01", "from 0 by 0: fill a1 00",
        ):
            self.assert_bad(text)
        self.assert_row(2, *self.GOOD[:2], "from 01 by 0: set a1 to 5")

    def test_other_numbers(self):
        for text in (
            "from -1 by 0: set a1 to 5", "from 0 by -1: set a1 to 5", "from 0 by -2: set a1 to 5",
            "from -0 by 0: set a1 to 5", "from 0 by +1: set a1 to 5", "from 0 by 0: fill a1 -1",
            "from 0 by 0: fill a1 +1", "from 0 by 0: fill a1 1.0", "from a1 by 0: set a1 to 5",
            "from \u0660 by 0: set a1 to 5", "from 0 by \u0660: set a1 to 5", "from 0 by 0: fill a1 \u0661",
            "from 0 by 0: fill a1 \u00b9", "from 0x0 by 0: set a1 to 5", "from 0 by 0_0: set a1 to 5",
        ):
            self.assert_bad(text)

    def test_a_deed_that_is_refused(self):
        for text in (
            "from 0 by 0: set a0 to 5", "from 0 by 0: set g1 to 5", "from 0 by 0: set A1 to 5",
            "from 0 by 0: set  to 5",
            "from 0 by 0: set a1 to = 5", "from 0 by 0: set a1 to a1", "from 0 by 0: set a1 to = a0",
            "from 0 by 0: set a1 to = add 1", "from 0 by 0: set a1 to = add 1 2 3", "from 0 by 0: set a1 to -0",
            "from 0 by 0: set a1 to 1000000", "from 0 by 0: set a1 to =", "from 0 by 0: set a1 to = ",
            "from 0 by 0: swap a1 a0", "from 0 by 0: swap a0 a1", "from 0 by 0: swap a1 ", "from 0 by 0: swap  a1",
            "from 0 by 0: fill a1 0", "from 0 by 0: fill a1 9", "from 0 by 0: fill a9 1", "from 0 by 0: fill c5 5",
            "from 0 by 0: fill g1 1", "from 0 by 0: fill a1 1000000000000", "from 0 by 0: fill a1 ",
        ):
            self.assert_bad(text)

    def test_a_deed_that_is_refused_only_there(self):
        rows = ("hands 0", "from 0 by 0: set a1 to = b7", "from 1 by 0: fill a1 2")
        self.assertEqual(read(note(*rows)).many(), 3)
        self.assert_row(2, *rows[:2], "from 1 by 0: fill a1 3")
        self.assert_row(3, *rows, "from 2 by 0: fill a3 1", "from 0 by 0: fill a1 8")
        self.assertEqual(read(note(*rows, "from 0 by 0: fill a1 8")).many(), 4)

    def test_an_empty_row(self):
        self.assert_row(1, "hands 0", "")
        self.assert_row(1, "hands 0", "", "")
        self.assert_row(4, *self.GOOD, "")
        self.assert_row(2, *self.GOOD[:2], "", *self.GOOD[2:])
        self.assert_row(0, "", *self.GOOD)
        self.assert_row(0, "", "")

    def test_a_row_too_many_at_the_end(self):
        self.assert_row(4, *self.GOOD, " ")
        self.assert_row(4, *self.GOOD, "hands 1 0")
        self.assert_row(4, *self.GOOD, "from 4 by 0: set a1 to 5")
        self.assert_row(4, *self.GOOD, "end")

    def test_only_line_ends_are_between_rows(self):
        for sign in ("\r", "\x0b", "\x0c", "\x1c", "\x85", "\u2028"):
            self.assert_row(0, "hands 0" + sign + "from 0 by 0: set a1 to 5")
            self.assert_row(1, "hands 0", "from 0 by 0: set a1 to 5" + sign + "from 0 by 0: set a1 to 5")
            self.assert_row(1, "hands 0", "from 0 by 0: swap a1 b1" + sign)

    def test_the_first_of_several_rows_counts(self):
        self.assert_row(1, "hands 0", "from 1 by 0: set a1 to 5", "what")
        self.assert_row(2, "hands 0", "from 0 by 0: set a1 to 5", "what", "from 0 by 1: set a1 to 5", "")
        self.assert_row(0, "hands", "what")
        self.assert_row(1, "hands 0", "from 0 by 9: set zz to = 5", "from 9 by 9: set zz to = 5")

    def test_a_row_that_makes_no_point_is_not_counted(self):
        # The refused row would have made the point from which the next one comes.
        self.assert_row(1, "hands 0", "from 0 by 0: fill a1 9", "from 1 by 0: set a1 to 5")

    def test_hands_that_stand_at_no_point_are_told_behind_all_others(self):
        for point in (4, 5, 80, 1000000, 10 ** 9, 10 ** 30):
            for first in (f"hands {point} 0", f"hands 0 {point}", f"hands {point} {point}"):
                self.assert_row(0, first, *self.GOOD[1:])
                self.assert_row(4, first, *self.GOOD[1:], "")
                self.assert_row(1, first, "what", *self.GOOD[1:])
                self.assert_row(1, first, "from 0 by 7: set a1 to 5")
        self.assert_row(0, "hands 1")
        self.assert_row(0, "hands 0 0 0 1")
        self.assert_row(0, "hands 3 3 3 4", *self.GOOD[1:])
        self.assertEqual(read(note("hands 3 3 3 3", *self.GOOD[1:])).here(3), 3)

    def test_numbers_of_thousands_of_figures(self):
        figures = "1" + "0" * 5000
        self.assert_row(0, "hands " + figures)
        self.assert_row(1, "hands " + figures, "what")
        self.assert_bad(f"from {figures} by 0: set a1 to 5")
        self.assert_bad(f"from 0 by {figures}: set a1 to 5")
        self.assert_bad(f"from 0 by 0: fill a1 {figures}")
        self.assert_bad(f"from 0 by 0: set a1 to {figures}")


if __name__ == "__main__":
    unittest.main()

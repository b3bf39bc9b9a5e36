"""Point 14: points of two hands are joined."""

import random
import unittest

from given import Checked, all_told, chain, forked, some_tree, table
from undotable import errors
from undotable.deeds import changes, done, uses
from undotable.joining import joined
from undotable.middle import leans
from undotable.tree import Tree


def branches(start, one, other):
    """A tree of two hands: behind the starting deeds, hand 0 did the one deeds and hand 1 the others."""
    tree = Tree(2)
    for deed in start:
        tree.do(0, deed)
    tree.go(1, tree.here(0))
    for deed in one:
        tree.do(0, deed)
    for deed in other:
        tree.do(1, deed)
    return tree


def plain_joined(tree, one, other):
    """The long way from the words of point 14: points left out, and pairs (a point, contents)."""
    fork = max(set(tree.trail(one)) & set(tree.trail(other)))
    elder, contents = tree.table(fork), tree.table(one)
    here = dict(contents)
    out, pairs = [], []
    for point in tree.trail(other)[len(tree.trail(fork)):]:
        deed = tree.told(point)[2]
        unlike = any(elder.get(cell) != here.get(cell) for cell in uses(deed))
        if unlike or set(leans(tree, point)) & set(out):
            out.append(point)
            continue
        try:
            contents = done(contents, deed)
        except errors.OffTable:
            out.append(point)
        else:
            pairs.append((point, contents))
    return out, pairs


def tree_near_the_end(chance):
    """A tree of two hands where contents soon leave the table where they are filled."""
    tree = Tree(3)
    while tree.many() < 14:
        hand = chance.randrange(2)
        deed = chance.choice([
            ("set", chance.choice(["a1", "b1"]), chance.choice(["= b9", "= add 1 sum a8 b2"])),
            ("set", chance.choice(["a1", "b1"]), chance.choice(["5", "= a1", ""])),
            ("fill", chance.choice(["a1", "b1"]), chance.choice([1, 2])),
            ("swap", "a1", chance.choice(["a2", "b1"])),
        ])
        try:
            tree.do(hand, deed)
        except errors.OffTable:
            pass
    return tree


def is_refused(contents, deed):
    """Whether a deed is refused where there are these contents."""
    try:
        done(contents, deed)
    except errors.OffTable:
        return True
    return False


class Fork(Checked):
    def test_two_branches(self):
        tree = forked()
        self.assertEqual(joined(tree, 0, 2, 4), (7, [], [(4, 7)]))
        self.assertEqual(tree.told(7), (2, 0, ("fill", "a1", 2)))
        self.assertEqual(tree.table(7), table(a1="5", b1="= a1", a2="5", a3="5"))
        self.assertEqual((tree.here(0), tree.here(1), tree.many()), (7, 5, 8))

    def test_the_fork_is_the_last_point_of_both_trails(self):
        tree = forked()
        # Behind 0, a1 was empty: only from 1 on do the two have the same a1.
        self.assertEqual(joined(tree, 1, 4, 2), (7, [], [(2, 7)]))
        self.assertEqual(joined(tree, 1, 2, 5), (9, [], [(4, 8), (5, 9)]))
        self.assertEqual(tree.table(9), table(b1="= a1", a2="5", a3="5"))

    def test_point_0_is_the_fork(self):
        tree = forked()
        self.assertEqual(joined(tree, 0, 6, 3), (9, [], [(1, 7), (2, 8), (3, 9)]))
        self.assertEqual(tree.trail(9), [0, 6, 7, 8, 9])
        self.assertEqual(tree.table(9), table(f9="-7", b1="= a1", c1="5"))
        self.assertEqual(joined(tree, 0, 3, 6), (10, [], [(6, 10)]))
        self.assertEqual(tree.table(10), tree.table(9))

    def test_the_first_point_is_on_the_trail_to_the_second(self):
        tree = forked()
        self.assertEqual(joined(tree, 1, 1, 3), (8, [], [(2, 7), (3, 8)]))
        self.assertEqual([tree.told(point) for point in (7, 8)], [
            (1, 1, ("set", "b1", "= a1")), (7, 1, ("swap", "a1", "c1"))])
        self.assertEqual(tree.table(8), tree.table(3))
        self.assertEqual((tree.here(0), tree.here(1), tree.many()), (6, 8, 9))

    def test_the_second_point_is_on_the_trail_to_the_first(self):
        tree = forked()
        self.assertEqual(joined(tree, 1, 3, 1), (3, [], []))
        self.assertEqual((tree.here(0), tree.here(1), tree.many()), (6, 3, 7))

    def test_a_point_with_itself(self):
        for point in range(7):
            tree = forked()
            self.assertEqual(joined(tree, 1, point, point), (point, [], []))
            self.assertEqual((tree.here(0), tree.here(1), tree.many()), (6, point, 7))

    def test_point_0(self):
        tree = forked()
        self.assertEqual(joined(tree, 0, 0, 2), (8, [], [(1, 7), (2, 8)]))
        self.assertEqual(tree.trail(8), [0, 7, 8])
        self.assertEqual(joined(tree, 1, 2, 0), (2, [], []))
        self.assertEqual(joined(tree, 1, 0, 0), (0, [], []))
        self.assertEqual((tree.here(0), tree.here(1), tree.many()), (8, 0, 9))

    def test_a_deed_ahead_of_the_fork_is_not_done_anew(self):
        tree = branches(
            [("set", "a1", "5"), ("swap", "a1", "b1")], [("set", "c1", "6")], [("swap", "b1", "d1")])
        self.assertEqual(joined(tree, 0, 3, 4), (5, [], [(4, 5)]))
        self.assertEqual(tree.table(5), table(c1="6", d1="5"))


class LeftOut(Checked):
    def test_a_deed_that_uses_a_cell_with_another_content(self):
        tree = branches([("set", "a1", "5")], [("set", "a1", "6")], [("set", "b1", "7"), ("set", "a1", "8")])
        self.assertEqual(joined(tree, 0, 2, 4), (5, [4], [(3, 5)]))
        self.assertEqual(tree.table(5), table(a1="6", b1="7"))

    def test_even_where_it_would_change_nothing(self):
        tree = branches([], [("set", "a1", "5")], [("set", "a1", "5"), ("set", "b1", "6")])
        self.assertEqual(joined(tree, 0, 1, 3), (4, [2], [(3, 4)]))
        self.assertEqual(tree.table(4), table(a1="5", b1="6"))

    def test_a_cell_that_became_the_same_content_again(self):
        tree = branches(
            [("set", "a1", "5")], [("set", "a1", "6"), ("set", "a1", "5")], [("set", "a1", "8")])
        self.assertEqual(joined(tree, 0, 3, 4), (5, [], [(4, 5)]))
        self.assertEqual(tree.table(5), table(a1="8"))

    def test_a_cell_that_was_emptied(self):
        tree = branches([("set", "a1", "5")], [("set", "a1", "")], [("swap", "a1", "b1"), ("set", "c1", "1")])
        self.assertEqual(joined(tree, 0, 2, 4), (5, [3], [(4, 5)]))
        self.assertEqual(tree.table(5), table(c1="1"))

    def test_a_cell_that_was_empty(self):
        tree = branches([], [("set", "a1", "5")], [("swap", "a1", "b1"), ("set", "c1", "1")])
        self.assertEqual(joined(tree, 0, 1, 3), (4, [2], [(3, 4)]))
        tree = branches([], [("set", "a1", "")], [("swap", "a1", "b1"), ("set", "c1", "1")])
        self.assertEqual(joined(tree, 0, 1, 3), (5, [], [(2, 4), (3, 5)]))

    def test_each_cell_that_a_deed_uses(self):
        for deed, out in (
            (("swap", "c2", "d1"), True), (("swap", "d1", "c2"), True), (("swap", "d1", "d2"), False),
            (("fill", "c2", 1), True), (("fill", "c1", 1), True), (("fill", "c1", 7), True),
            (("fill", "c3", 1), False), (("fill", "b1", 8), False), (("set", "c2", ""), True),
        ):
            tree = branches([], [("set", "c2", "5")], [deed])
            with self.subTest(deed):
                self.assertEqual(joined(tree, 1, 1, 2), (1, [2], []) if out else (3, [], [(2, 3)]))

    def test_a_content_that_reads_does_not_use(self):
        tree = branches([("set", "a1", "5")], [("set", "a1", "6")], [("set", "b1", "= a1")])
        self.assertEqual(joined(tree, 0, 2, 3), (4, [], [(3, 4)]))
        self.assertEqual(tree.worths(4), {"a1": 6, "b1": 6})

    def test_one_that_leans_on_one_left_out(self):
        tree = branches(
            [("set", "a1", "5")], [("set", "a1", "6")],
            [("set", "c1", "1"), ("swap", "a1", "b1"), ("swap", "b1", "d1"), ("fill", "c1", 2), ("set", "d1", "2")])
        self.assertEqual(joined(tree, 0, 2, 7), (9, [4, 5, 7], [(3, 8), (6, 9)]))
        self.assertEqual([tree.told(point) for point in (8, 9)], [
            (2, 0, ("set", "c1", "1")), (8, 0, ("fill", "c1", 2))])
        self.assertEqual(tree.table(9), table(a1="6", c1="1", c2="1", c3="1"))

    def test_one_that_leans_on_a_point_ahead_of_the_fork_or_on_one_done_anew(self):
        tree = branches(
            [("set", "a1", "5"), ("set", "b1", "6")], [("set", "b1", "7")],
            [("swap", "a1", "c1"), ("swap", "c1", "d1"), ("set", "b1", "8")])
        self.assertEqual(joined(tree, 0, 3, 6), (8, [6], [(4, 7), (5, 8)]))
        self.assertEqual(tree.table(8), table(b1="7", d1="5"))

    def test_one_that_would_leave_the_table(self):
        tree = branches(
            [("set", "a1", "5")], [("set", "a1", "= b8")],
            [("fill", "a1", 2), ("set", "c1", "6"), ("swap", "a3", "c2")])
        self.assertEqual(joined(tree, 0, 2, 5), (6, [3, 5], [(4, 6)]))
        self.assertEqual(tree.table(6), table(a1="= b8", c1="6"))

    def test_where_all_are_left_out_the_hand_stands_at_the_first_point(self):
        tree = branches([("set", "a1", "5")], [("set", "a1", "6")], [("set", "a1", "7"), ("swap", "a1", "b1")])
        self.assertEqual(joined(tree, 1, 2, 4), (2, [3, 4], []))
        self.assertEqual((tree.here(0), tree.here(1), tree.many()), (2, 2, 5))

    def test_in_trees_where_a_deed_was_taken_out_or_points_were_joined(self):
        tree = branches([("set", "a1", "5")], [("set", "b1", "6")], [("set", "c1", "7")])
        self.assertEqual(joined(tree, 0, 2, 3), (4, [], [(3, 4)]))
        self.assertEqual(joined(tree, 0, 3, 2), (5, [], [(2, 5)]))
        # 4 and 5 have the same table, but their fork is 1: there, b1 and c1 were empty.
        self.assertEqual(joined(tree, 1, 4, 5), (4, [3, 5], []))
        tree.do(0, ("set", "d1", "8"))
        self.assertEqual(joined(tree, 1, 4, 6), (7, [3, 5], [(6, 7)]))
        self.assertEqual(tree.trail(7), [0, 1, 2, 4, 7])
        self.assertEqual(tree.table(7), tree.table(6))


class BothWaysRound(Checked):
    def both(self, tree, one, other):
        """What both ways round tell."""
        return joined(tree, 0, one, other), joined(tree, 1, other, one)

    def test_to_the_same_table(self):
        tree = branches(
            [("set", "a1", "5"), ("set", "b1", "= a1")], [("swap", "a1", "c1"), ("set", "d1", "= c1")],
            [("fill", "b1", 2), ("set", "b2", ""), ("set", "e1", "= sum a1 c3")])
        there, back = self.both(tree, 4, 7)
        self.assertEqual(there, (10, [], [(5, 8), (6, 9), (7, 10)]))
        self.assertEqual(back, (12, [], [(3, 11), (4, 12)]))
        self.assertEqual(tree.table(10), table(b1="= a1", b3="= a3", c1="5", d1="= c1", e1="= sum a1 c3"))
        self.assertEqual(tree.table(12), tree.table(10))
        self.assertEqual(tree.worths(12), tree.worths(10))

    def test_with_something_left_out_to_other_tables(self):
        tree = branches([], [("set", "a1", "5")], [("set", "a1", "6")])
        self.assertEqual(self.both(tree, 1, 2), ((1, [2], []), (2, [1], [])))

    def test_any_trees(self):
        chance = random.Random(14)
        same = 0
        for _ in range(300):
            tree = some_tree(chance, 2, 25)
            one, other = chance.randrange(25), chance.randrange(25)
            there, back = self.both(tree, one, other)
            if not there[1] and not back[1]:
                same += there[2] != [] and back[2] != []
                self.assertEqual(tree.table(there[0]), tree.table(back[0]))
        self.assertGreater(same, 20)


class Joined(Checked):
    def assert_nothing_done(self, kind, tree, *given):
        whole = all_told(tree, 2)
        with self.subTest(given):
            self.assert_refused(kind, joined, tree, *given)
            self.assertEqual(all_told(tree, 2), whole)

    def test_no_such_point(self):
        for number in (7, 8, 100, -1, -3, -7):
            for point in (0, 3, 6):
                self.assert_nothing_done(errors.NoPoint, forked(), 0, number, point)
                self.assert_nothing_done(errors.NoPoint, forked(), 1, point, number)
            self.assert_nothing_done(errors.NoPoint, forked(), 0, number, number)

    def test_no_hand_ahead_of_no_point(self):
        for hand in (2, 3, 4, -1, -2, 100):
            for one, other in ((1, 3), (3, 3), (0, 0), (7, 3), (3, 7), (-1, -1)):
                self.assert_nothing_done(errors.NoHand, forked(), hand, one, other)

    def test_told_is_of_its_kinds_and_new(self):
        tree = branches([], [("set", "a1", "5")], [("set", "a1", "6"), ("set", "b1", "7")])
        told = joined(tree, 0, 1, 3)
        self.assertEqual(told, (4, [2], [(3, 4)]))
        self.assertEqual([type(value) for value in told], [int, list, list])
        self.assertIs(type(told[2][0]), tuple)
        whole = all_told(tree, 2)
        told[1].clear()
        told[2].clear()
        self.assertEqual(all_told(tree, 2), whole)
        self.assertEqual(joined(tree, 0, 1, 3), (5, [2], [(3, 5)]))
        for told in (joined(tree, 0, 1, 1), joined(tree, 0, 1, 1)):
            self.assertEqual(told, (1, [], []))
            told[1].append(9)
            told[2].append((9, 9))

    def test_one_hand_alone(self):
        tree = chain(("set", "a1", "5"), ("set", "b1", "6"))
        tree.go(0, 1)
        tree.do(0, ("set", "c1", "7"))
        self.assertEqual(joined(tree, 0, 2, 3), (4, [], [(3, 4)]))

    def test_any_trees_as_by_the_long_way(self):
        chance = random.Random(7)
        for _ in range(300):
            tree = some_tree(chance, 3, 30)
            self.assert_joined(tree, chance.randrange(3), chance.randrange(30), chance.randrange(30))

    def test_trees_in_which_fills_would_be_refused(self):
        chance = random.Random(18)
        refused = 0
        for _ in range(300):
            tree = tree_near_the_end(chance)
            one, other = tree.here(0), tree.here(1)
            refused += any([
                is_refused(tree.table(one), tree.told(point)[2]) for point in plain_joined(tree, one, other)[0]])
            self.assert_joined(tree, 2, one, other)
        self.assertGreater(refused, 10)

    def assert_joined(self, tree, hand, one, other):
        out, behind = plain_joined(tree, one, other)
        many = tree.many()
        numbers = list(range(many, many + len(behind)))
        last = numbers[-1] if numbers else one
        elder = [(tree.told(at), tree.table(at)) for at in range(1, many)]
        stands = [tree.here(at) for at in range(3)]
        told = joined(tree, hand, one, other)
        self.assertEqual(told, (last, out, [(pair[0], at) for pair, at in zip(behind, numbers)]))
        self.assertEqual([tree.table(at) for at in numbers], [pair[1] for pair in behind])
        self.assertEqual(tree.many(), many + len(behind))
        self.assertEqual(tree.trail(last), tree.trail(one) + numbers)
        self.assertEqual([(tree.told(at), tree.table(at)) for at in range(1, many)], elder)
        stands[hand] = last
        self.assertEqual([tree.here(at) for at in range(3)], stands)
        for old, new in told[2]:
            deed = tree.told(old)[2]
            self.assertEqual(tree.told(new)[1:], (hand, deed))
            self.assertEqual(
                changes(tree.table(tree.told(new)[0]), deed), changes(tree.table(tree.told(old)[0]), deed))


if __name__ == "__main__":
    unittest.main()

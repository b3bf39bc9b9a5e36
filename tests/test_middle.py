"""Points 11 to 13: what a deed leans on and reads, and deeds taken out of the middle."""

import random
import unittest

from given import Checked, all_told, chain, forked, some_tree, table
from undotable import errors
from undotable.deeds import changes, done, uses
from undotable.formulas import read_cells
from undotable.middle import leans, reads, without
from undotable.tree import Tree


def last_changes(tree, trail, cells):
    """The points of a trail that last changed some cells, by what their tables tell."""
    found = set()
    for cell in cells:
        changed = [
            point for point in trail[1:]
            if tree.table(point).get(cell) != tree.table(tree.told(point)[0]).get(cell)
        ]
        found.update(changed[-1:])
    return sorted(found)


def plain_leans(tree, point):
    """The long way from the words of point 11."""
    return last_changes(tree, tree.trail(point)[:-1], uses(tree.told(point)[2]))


def plain_reads(tree, point):
    """The long way from the words of point 11."""
    origin, _, deed = tree.told(point)
    newer = [row[2] for row in changes(tree.table(origin), deed)]
    cells = {cell for content in newer for cell in read_cells(content)}
    while True:
        further = {
            inner for cell in cells for inner in read_cells(tree.table(point).get(cell))
        }
        if further <= cells:
            return last_changes(tree, tree.trail(point), cells)
        cells |= further


def plain_without(tree, gone, point, falls):
    """The long way from the words of point 12: points left out, and pairs (a point, contents)."""
    trail = tree.trail(point)
    contents = tree.table(tree.told(gone)[0])
    fallen, pairs = [gone], []
    for elder in trail[trail.index(gone) + 1:]:
        if falls and set(plain_leans(tree, elder)) & set(fallen):
            fallen.append(elder)
            continue
        try:
            contents = done(contents, tree.told(elder)[2])
        except errors.OffTable:
            fallen.append(elder)
        else:
            pairs.append((elder, contents))
    return fallen[1:], pairs


def tree_near_the_end(chance):
    """A tree where a fill is let by only while a content that would leave the table is covered."""
    tree = Tree(3)
    while tree.many() < 9:
        deed = chance.choice([
            ("set", "a1", chance.choice(["= b9", "= add 1 sum a8 b2"])),
            ("set", "a1", chance.choice(["5", "= a1", ""])),
            ("fill", "a1", chance.choice([1, 2])), ("swap", "a1", "a2"),
        ])
        try:
            tree.do(0, deed)
        except errors.OffTable:
            pass
    return tree


def changed_by(tree, point):
    """What the deed of a point changed."""
    origin, _, deed = tree.told(point)
    return changes(tree.table(origin), deed)


class Leaning(Checked):
    def assert_leans(self, tree, *rows):
        told = [leans(tree, point) for point in range(1, tree.many())]
        self.assertEqual(told, list(rows))

    def test_only_the_last_one_of_a_cell(self):
        tree = chain(("set", "a1", "5"), ("set", "a1", "6"), ("set", "a1", "7"))
        self.assert_leans(tree, [], [1], [2])

    def test_each_cell_has_its_last_one(self):
        tree = chain(
            ("set", "a1", "5"), ("set", "b1", "1"), ("set", "a1", "6"), ("swap", "a1", "b1"), ("set", "b1", "2"))
        self.assert_leans(tree, [], [], [1], [2, 3], [4])

    def test_rising_in_whatever_order_the_cells_are_used(self):
        tree = chain(("set", "b1", "1"), ("set", "a1", "5"), ("swap", "a1", "b1"))
        self.assert_leans(tree, [], [], [1, 2])
        tree = chain(("set", "a3", "1"), ("set", "a2", "5"), ("set", "a1", "5"), ("fill", "a1", 2))
        self.assert_leans(tree, [], [], [], [1, 2, 3])

    def test_a_cell_that_nobody_changed(self):
        tree = chain(("set", "a1", "5"), ("set", "b1", "6"), ("swap", "c1", "d1"), ("fill", "e1", 3))
        self.assert_leans(tree, [], [], [], [])

    def test_a_content_that_reads_does_not_lean(self):
        tree = chain(("set", "a1", "5"), ("set", "b1", "= a1"), ("set", "c1", "= sum a1 b1"))
        self.assert_leans(tree, [], [], [])

    def test_nothing_leans_on_a_deed_that_changes_nothing(self):
        tree = chain(
            ("set", "a1", "5"), ("set", "a1", "5"), ("set", "a1", "6"), ("set", "b1", ""), ("set", "b1", "1"))
        self.assert_leans(tree, [], [1], [1], [], [])

    def test_a_swap_of_one_cell_with_itself(self):
        tree = chain(("swap", "a1", "a1"), ("set", "a1", "5"), ("swap", "a1", "a1"), ("set", "a1", "6"))
        self.assert_leans(tree, [], [], [2], [2])

    def test_a_swap_of_two_like_cells_changes_neither(self):
        tree = chain(("set", "a1", "5"), ("set", "b1", "5"), ("swap", "a1", "b1"), ("swap", "b1", "c1"))
        self.assert_leans(tree, [], [], [1, 2], [2])

    def test_a_cell_that_was_emptied(self):
        tree = chain(
            ("set", "a1", "5"), ("set", "a1", ""), ("set", "a1", "6"), ("swap", "a1", "b1"), ("set", "a1", "1"))
        self.assert_leans(tree, [], [1], [2], [3], [4])

    def test_a_fill_uses_what_it_copies_and_what_it_fills(self):
        tree = chain(
            ("set", "a1", "5"), ("set", "a3", "6"), ("set", "a4", "7"), ("set", "b2", "8"), ("fill", "a1", 2),
            ("set", "a3", "1"), ("set", "a4", "2"), ("set", "a1", "3"), ("set", "a2", "4"))
        self.assert_leans(tree, [], [], [], [], [1, 2], [5], [3], [1], [5])

    def test_a_fill_over_cells_of_one_deed_leans_on_it_once(self):
        tree = chain(("set", "a1", "5"), ("fill", "a1", 5), ("set", "a1", "6"), ("fill", "a2", 3), ("fill", "a1", 8))
        self.assert_leans(tree, [], [1], [1], [2], [2, 3])

    def test_a_fill_last_changed_only_what_became_another_content(self):
        tree = chain(("set", "a1", "5"), ("set", "a2", "5"), ("fill", "a1", 2), ("set", "a2", "1"), ("set", "a3", "1"))
        self.assert_leans(tree, [], [], [1, 2], [2], [3])

    def test_only_the_points_of_its_trail(self):
        tree = forked()
        self.assert_leans(tree, [], [], [1], [1], [1], [])
        tree.do(0, ("swap", "a1", "f9"))
        tree.go(0, 3)
        tree.do(0, ("fill", "c1", 1))
        tree.do(0, ("set", "a2", ""))
        self.assertEqual([leans(tree, point) for point in (7, 8, 9)], [[6], [3], []])


class Reading(Checked):
    def assert_reads(self, tree, *rows):
        told = [reads(tree, point) for point in range(1, tree.many())]
        self.assertEqual(told, list(rows))

    def test_a_cell_that_a_content_reads(self):
        tree = chain(("set", "a1", "5"), ("set", "b1", "= add a1 c1"), ("set", "c1", "6"), ("set", "d1", "= mul a1 c1"))
        self.assert_reads(tree, [], [1], [], [1, 3])

    def test_a_cell_that_a_content_comes_to_by_reading(self):
        tree = chain(
            ("set", "a1", "5"), ("set", "b1", "= a1"), ("set", "c1", "= b1"), ("set", "d1", "= c1"),
            ("set", "e1", "= b1"))
        self.assert_reads(tree, [], [1], [1, 2], [1, 2, 3], [1, 2])

    def test_only_the_last_one_of_a_cell(self):
        tree = chain(("set", "a1", "5"), ("set", "a1", "6"), ("set", "a1", "6"), ("set", "b1", "= a1"))
        self.assert_reads(tree, [], [], [], [2])

    def test_its_own_point(self):
        self.assert_reads(chain(("set", "a1", "= a1")), [1])
        tree = chain(("set", "b1", "5"), ("set", "a1", "= b1"), ("swap", "a1", "b1"))
        self.assertEqual(tree.table(3), table(a1="5", b1="= b1"))
        self.assert_reads(tree, [], [1], [3])

    def test_a_ring(self):
        tree = chain(
            ("set", "a1", "= b1"), ("set", "b1", "= c1"), ("set", "c1", "= a1"), ("set", "d1", "= b1"),
            ("set", "c1", ""))
        self.assert_reads(tree, [], [], [1, 2, 3], [1, 2, 3], [])

    def test_a_ring_that_it_does_not_come_to(self):
        tree = chain(("set", "a1", "= b1"), ("set", "b1", "= a1"), ("set", "c1", "5"), ("set", "d1", "= c1"))
        self.assert_reads(tree, [], [1, 2], [], [3])

    def test_a_sum_reads_its_stretch(self):
        tree = chain(
            ("set", "a1", "1"), ("set", "b2", "2"), ("set", "c3", "3"), ("set", "d4", "= sum b1 a2"),
            ("set", "d5", "= sum c3 b2"), ("set", "d6", "= sum d9 a8"))
        self.assert_reads(tree, [], [], [], [1, 2], [2, 3], [])

    def test_a_part_that_does_not_count_is_read_too(self):
        tree = chain(("set", "a1", "1"), ("set", "b1", "2"), ("set", "c1", "= pick 1 2 a1 b1"))
        self.assert_reads(tree, [], [], [1, 2])

    def test_a_deed_that_changes_nothing(self):
        tree = chain(
            ("set", "a1", "5"), ("set", "b1", "= a1"), ("set", "b1", "= a1"), ("swap", "b1", "b1"),
            ("set", "c1", "= b1"))
        self.assert_reads(tree, [], [1], [], [], [1, 2])

    def test_a_cell_that_it_uses_but_does_not_change(self):
        tree = chain(("set", "b1", "6"), ("set", "a1", "= b1"), ("set", "a2", "= b2"), ("fill", "a1", 1))
        self.assert_reads(tree, [], [1], [], [])

    def test_a_swap_changes_two_cells(self):
        tree = chain(
            ("set", "a1", "5"), ("set", "b1", "= a1"), ("set", "c1", "= d1"), ("set", "d1", "6"), ("swap", "b1", "c1"))
        self.assert_reads(tree, [], [1], [], [], [1, 4])

    def test_a_swap_with_an_empty_cell(self):
        tree = chain(("set", "b1", "5"), ("set", "a1", "= b1"), ("swap", "c1", "a1"), ("swap", "b1", "d1"))
        self.assert_reads(tree, [], [1], [1], [])

    def test_a_fill_changes_many_cells(self):
        tree = chain(
            ("set", "b3", "5"), ("set", "b2", "6"), ("set", "b1", "7"), ("set", "b5", "8"), ("set", "a1", "= b1"),
            ("fill", "a1", 3))
        self.assert_reads(tree, [], [], [], [], [3], [1, 2])

    def test_a_fill_that_reads_what_it_fills(self):
        tree = chain(("set", "a1", "= a2"), ("set", "a4", "5"), ("fill", "a1", 2))
        self.assert_reads(tree, [], [], [2, 3])

    def test_a_cell_that_was_emptied(self):
        tree = chain(("set", "a1", "5"), ("set", "a1", ""), ("set", "b1", "= add a1 c1"))
        self.assert_reads(tree, [], [], [2])

    def test_nothing_reads_nothing(self):
        tree = chain(
            ("set", "a1", "5"), ("set", "b1", "= a1"), ("set", "b1", ""), ("set", "c1", "= b1"), ("set", "a1", ""))
        self.assert_reads(tree, [], [1], [], [3], [])

    def test_by_what_there_is_at_that_point(self):
        tree = chain(
            ("set", "a1", "5"), ("set", "c1", "= b1"), ("set", "b1", "= a1"), ("set", "d1", "= c1"), ("set", "b1", "6"),
            ("set", "d2", "= c1"))
        self.assert_reads(tree, [], [], [1], [1, 2, 3], [], [2, 5])

    def test_only_the_points_of_its_trail(self):
        tree = forked()
        self.assert_reads(tree, [], [1], [], [], [], [])
        tree.do(0, ("set", "b9", "= add a1 f9"))
        tree.go(0, 3)
        tree.do(0, ("set", "b9", "= add b1 f9"))
        tree.go(0, 4)
        tree.do(0, ("set", "b9", "= sum a1 c3"))
        self.assertEqual([reads(tree, point) for point in (7, 8, 9)], [[6], [2, 3], [1, 4]])


class LeansAndReads(Checked):
    def test_no_such_point(self):
        tree = forked()
        whole = all_told(tree, 2)
        for point in (0, 7, 8, 100, -1, -2, -7):
            with self.subTest(point):
                self.assert_refused(errors.NoPoint, leans, tree, point)
                self.assert_refused(errors.NoPoint, reads, tree, point)
        self.assert_refused(errors.NoPoint, leans, Tree(1), 1)
        self.assert_refused(errors.NoPoint, reads, Tree(1), 1)
        self.assert_refused(errors.NoPoint, leans, Tree(1), 0)
        self.assert_refused(errors.NoPoint, reads, Tree(1), 0)
        self.assertEqual(all_told(tree, 2), whole)

    def test_told_lists_can_be_cleared(self):
        tree = chain(("set", "a1", "5"), ("swap", "a1", "b1"), ("set", "c1", "= sum a1 b1"), ("fill", "b1", 2))
        whole = all_told(tree, 1)
        for work in (leans, reads):
            for point in range(1, 5):
                told = work(tree, point)
                self.assertIs(type(told), list)
                told.append(9)
                work(tree, point).clear()
        self.assertEqual(all_told(tree, 1), whole)

    def test_any_trees_as_by_the_long_way(self):
        for seed in range(30):
            tree = some_tree(random.Random(seed), 2, 40)
            for point in range(1, 40):
                self.assertEqual(leans(tree, point), plain_leans(tree, point))
                self.assertEqual(reads(tree, point), plain_reads(tree, point))


class Falling(Checked):
    def falling(self):
        """A tree of two hands at 8, where 3 leans on 1, 4 on 3, 6 on 2, and 8 on 4."""
        tree = Tree(2)
        for deed in (
            ("set", "a1", "5"), ("set", "b1", "6"), ("fill", "a1", 1), ("set", "a2", "7"), ("set", "c1", "= a1"),
            ("set", "b1", "8"), ("swap", "d1", "e1"), ("swap", "a2", "f1"),
        ):
            tree.do(0, deed)
        tree.go(1, 8)
        return tree

    def test_what_leans_on_it_falls_and_what_leans_on_that(self):
        tree = self.falling()
        self.assertEqual(without(tree, 0, 1, 8, True), (12, [3, 4, 8], [(2, 9), (5, 10), (6, 11), (7, 12)]))
        self.assertEqual([tree.told(point) for point in range(9, 13)], [
            (0, 0, ("set", "b1", "6")), (9, 0, ("set", "c1", "= a1")), (10, 0, ("set", "b1", "8")),
            (11, 0, ("swap", "d1", "e1"))])
        self.assertEqual([tree.table(point) for point in range(9, 13)], [
            table(b1="6"), table(b1="6", c1="= a1"), table(b1="8", c1="= a1"), table(b1="8", c1="= a1")])
        self.assertEqual(tree.worths(12), {"b1": 8, "c1": 0})
        self.assertEqual(tree.trail(12), [0, 9, 10, 11, 12])

    def test_nothing_else_falls(self):
        tree = self.falling()
        self.assertEqual(without(tree, 0, 2, 8, True), (13, [6], [(3, 9), (4, 10), (5, 11), (7, 12), (8, 13)]))
        self.assertEqual(tree.trail(13), [0, 1, 9, 10, 11, 12, 13])
        self.assertEqual(tree.table(13), table(a1="5", c1="= a1", f1="7"))

    def test_what_only_reads_it_does_not_fall(self):
        tree = chain(("set", "a1", "5"), ("set", "b1", "= a1"), ("fill", "b1", 1), ("set", "c1", "= sum a1 b2"))
        self.assertEqual(without(tree, 0, 1, 4, True), (7, [], [(2, 5), (3, 6), (4, 7)]))
        self.assertEqual(tree.table(7), table(b1="= a1", b2="= a2", c1="= sum a1 b2"))
        self.assertEqual(tree.worths(7), {"b1": 0, "b2": 0, "c1": 0})

    def test_a_deed_that_changed_nothing_carries_nobody(self):
        tree = chain(("set", "a1", "5"), ("set", "a1", "5"), ("set", "a1", "6"))
        self.assertEqual(without(tree, 0, 2, 3, True), (4, [], [(3, 4)]))
        self.assertEqual(tree.trail(4), [0, 1, 4])
        self.assertEqual(without(tree, 0, 1, 3, True), (0, [2, 3], []))

    def test_the_last_of_the_trail(self):
        tree = self.falling()
        self.assertEqual(without(tree, 0, 8, 8, True), (7, [], []))
        self.assertEqual((tree.here(0), tree.here(1), tree.many()), (7, 8, 9))

    def test_where_all_fall_the_hand_stands_at_the_point_ahead(self):
        tree = chain(("set", "b1", "1"), ("set", "a1", "5"), ("swap", "a1", "c1"), ("swap", "c1", "d1"))
        self.assertEqual(without(tree, 0, 2, 4, True), (1, [3, 4], []))
        self.assertEqual((tree.here(0), tree.many()), (1, 5))

    def test_a_trail_that_ends_ahead_of_the_tree(self):
        tree = self.falling()
        self.assertEqual(without(tree, 1, 1, 5, True), (10, [3, 4], [(2, 9), (5, 10)]))
        self.assertEqual((tree.here(0), tree.here(1)), (8, 10))

    def test_deeds_of_other_hands_are_done_anew_by_the_one(self):
        tree = Tree(3)
        tree.do(0, ("set", "a1", "5"))
        tree.go(1, 1)
        tree.do(1, ("set", "b1", "6"))
        tree.go(2, 2)
        tree.do(2, ("set", "a1", "7"))
        tree.do(2, ("set", "c1", "8"))
        tree.go(0, 2)
        self.assertEqual(without(tree, 1, 1, 4, True), (6, [3], [(2, 5), (4, 6)]))
        self.assertEqual([tree.told(point) for point in range(1, 7)], [
            (0, 0, ("set", "a1", "5")), (1, 1, ("set", "b1", "6")), (2, 2, ("set", "a1", "7")),
            (3, 2, ("set", "c1", "8")), (0, 1, ("set", "b1", "6")), (5, 1, ("set", "c1", "8"))])
        self.assertEqual([tree.here(hand) for hand in range(3)], [2, 6, 4])

    def test_only_the_deeds_of_that_trail(self):
        tree = forked()
        self.assertEqual(without(tree, 0, 1, 3, True), (7, [3], [(2, 7)]))
        self.assertEqual(tree.told(7), (0, 0, ("set", "b1", "= a1")))
        self.assertEqual(without(tree, 1, 4, 5, True), (8, [], [(5, 8)]))
        self.assertEqual(tree.told(8), (1, 1, ("set", "a1", "")))
        self.assertEqual((tree.here(0), tree.here(1), tree.many()), (7, 8, 9))

    def test_from_a_trail_that_was_done_anew(self):
        tree = self.falling()
        without(tree, 0, 2, 8, True)
        self.assertEqual(without(tree, 0, 1, 13, True), (15, [9, 10, 13], [(11, 14), (12, 15)]))
        self.assertEqual(tree.table(15), table(c1="= a1"))
        self.assertEqual(tree.road(15, 13), [
            ("back", 15), ("back", 14), ("forth", 1), ("forth", 9), ("forth", 10), ("forth", 11), ("forth", 12),
            ("forth", 13)])


class Trying(Checked):
    def test_all_are_tried_on_what_there_is_then(self):
        tree = chain(("set", "a1", "5"), ("set", "a1", "6"), ("fill", "a1", 2), ("swap", "a1", "b1"))
        self.assertEqual(without(tree, 0, 2, 4, False), (6, [], [(3, 5), (4, 6)]))
        self.assertEqual(tree.table(5), table(a1="5", a2="5", a3="5"))
        self.assertEqual(tree.table(6), table(b1="5", a2="5", a3="5"))
        self.assertEqual(tree.worths(6), {"b1": 5, "a2": 5, "a3": 5})
        self.assertEqual(tree.trail(6), [0, 1, 5, 6])
        self.assertEqual((tree.here(0), tree.many()), (6, 7))

    def test_beside_the_same_where_they_fall(self):
        tree = chain(
            ("set", "a1", "5"), ("set", "a1", "6"), ("fill", "a1", 2), ("swap", "a1", "b1"), ("set", "c1", "1"))
        self.assertEqual(without(tree, 0, 2, 5, True), (6, [3, 4], [(5, 6)]))
        self.assertEqual(tree.table(6), table(a1="5", c1="1"))
        self.assertEqual(without(tree, 0, 2, 5, False), (9, [], [(3, 7), (4, 8), (5, 9)]))

    def test_what_would_leave_the_table_is_left_out(self):
        tree = chain(
            ("set", "a1", "= b8"), ("set", "a1", "5"), ("fill", "a1", 2), ("set", "c1", "6"), ("fill", "a1", 1))
        self.assertEqual(without(tree, 0, 2, 5, False), (7, [3], [(4, 6), (5, 7)]))
        self.assertEqual(tree.table(7), table(a1="= b8", a2="= b9", c1="6"))
        self.assertEqual(tree.trail(7), [0, 1, 6, 7])
        self.assertEqual([tree.told(point) for point in (6, 7)], [
            (1, 0, ("set", "c1", "6")), (6, 0, ("fill", "a1", 1))])

    def test_what_leans_on_one_left_out_is_tried_too(self):
        tree = chain(
            ("set", "a1", "= b9"), ("set", "a1", "5"), ("fill", "a1", 2), ("swap", "a3", "c1"), ("fill", "a2", 1))
        self.assertEqual(without(tree, 0, 2, 5, False), (7, [3], [(4, 6), (5, 7)]))
        self.assertEqual(tree.table(7), table(a1="= b9"))

    def test_where_all_are_left_out_the_hand_stands_at_the_point_ahead(self):
        tree = chain(("set", "a1", "= b9"), ("set", "a1", "5"), ("fill", "a1", 2), ("fill", "a1", 1))
        self.assertEqual(without(tree, 0, 2, 4, False), (1, [3, 4], []))
        self.assertEqual((tree.here(0), tree.many()), (1, 5))

    def test_the_last_of_the_trail(self):
        tree = chain(("set", "a1", "5"), ("set", "a1", "6"))
        self.assertEqual(without(tree, 0, 2, 2, False), (1, [], []))
        self.assertEqual(without(tree, 0, 1, 1, False), (0, [], []))
        self.assertEqual((tree.here(0), tree.many()), (0, 3))

    def test_other_hands_stay(self):
        tree = forked()
        tree.go(0, 5)
        self.assertEqual(without(tree, 1, 1, 3, False), (8, [], [(2, 7), (3, 8)]))
        self.assertEqual((tree.here(0), tree.here(1)), (5, 8))
        self.assertEqual([tree.told(point) for point in (7, 8)], [
            (0, 1, ("set", "b1", "= a1")), (7, 1, ("swap", "a1", "c1"))])
        self.assertEqual(tree.table(8), table(b1="= a1"))


class Without(Checked):
    def assert_nothing_done(self, kind, tree, *given):
        whole = all_told(tree, 2)
        for falls in (True, False):
            with self.subTest(given=given, falls=falls):
                self.assert_refused(kind, without, tree, *given, falls)
                self.assertEqual(all_told(tree, 2), whole)

    def test_a_point_that_is_not_on_the_trail(self):
        for gone, point in ((4, 3), (3, 2), (2, 1), (6, 5), (1, 6), (1, 0), (6, 0), (5, 4)):
            self.assert_nothing_done(errors.NoPoint, forked(), 0, gone, point)

    def test_point_0(self):
        for point in (0, 1, 3, 6):
            self.assert_nothing_done(errors.NoPoint, forked(), 1, 0, point)

    def test_no_such_point(self):
        for number in (7, 8, 100, -1, -3, -7):
            self.assert_nothing_done(errors.NoPoint, forked(), 0, number, 3)
            self.assert_nothing_done(errors.NoPoint, forked(), 0, 1, number)
            self.assert_nothing_done(errors.NoPoint, forked(), 0, number, number)

    def test_no_hand_ahead_of_no_point(self):
        for hand in (2, 3, 4, -1, -2, 100):
            for gone, point in ((1, 3), (0, 3), (7, 3), (1, 7), (4, 3), (-1, -1)):
                self.assert_nothing_done(errors.NoHand, forked(), hand, gone, point)

    def test_told_is_of_its_kinds_and_new(self):
        for falls in (True, False):
            tree = chain(("set", "a1", "= b9"), ("set", "a1", "5"), ("fill", "a1", 1), ("set", "b1", "6"))
            told = without(tree, 0, 2, 4, falls)
            self.assertEqual([type(value) for value in told], [int, list, list])
            self.assertIs(type(told[2][0]), tuple)
            whole = all_told(tree, 1)
            told[1].clear()
            told[2].clear()
            self.assertEqual(all_told(tree, 1), whole)
            self.assertEqual(without(tree, 0, 2, 4, falls), (6, [3], [(4, 6)]))

    def test_any_trees_as_by_the_long_way(self):
        chance = random.Random(13)
        for _ in range(150):
            tree = some_tree(chance, 3, 30)
            for falls in (True, False):
                point = chance.choice([point for point in range(1, 30) if len(tree.trail(point)) > 3])
                gone = chance.choice(tree.trail(point)[1:])
                self.assert_taken_out(tree, chance.randrange(3), gone, point, falls)

    def test_trees_in_which_fills_are_refused(self):
        chance = random.Random(17)
        refused = 0
        for _ in range(300):
            tree = tree_near_the_end(chance)
            gone = chance.randrange(1, 9)
            refused += plain_without(tree, gone, 8, False)[0] != []
            self.assert_taken_out(tree, 0, gone, 8, False)
            self.assert_taken_out(tree, 1, gone, 8, True)
        self.assertGreater(refused, 10)

    def assert_taken_out(self, tree, hand, gone, point, falls):
        left, behind = plain_without(tree, gone, point, falls)
        many = tree.many()
        numbers = list(range(many, many + len(behind)))
        last = numbers[-1] if numbers else tree.told(gone)[0]
        elder = [(tree.told(at), tree.table(at)) for at in range(1, many)]
        stands = [tree.here(at) for at in range(3)]
        told = without(tree, hand, gone, point, falls)
        self.assertEqual(told, (last, left, [(pair[0], at) for pair, at in zip(behind, numbers)]))
        self.assertEqual([tree.table(at) for at in numbers], [pair[1] for pair in behind])
        self.assertEqual(tree.many(), many + len(behind))
        self.assertEqual(tree.trail(last), tree.trail(tree.told(gone)[0]) + numbers)
        self.assertEqual([(tree.told(at), tree.table(at)) for at in range(1, many)], elder)
        stands[hand] = last
        self.assertEqual([tree.here(at) for at in range(3)], stands)
        for old, new in told[2]:
            self.assertEqual(tree.told(new)[1:], (hand, tree.told(old)[2]))
            if falls:
                self.assertEqual(changed_by(tree, new), changed_by(tree, old))


if __name__ == "__main__":
    unittest.main()

"""Points 9 and 10: the tree, its hands, and the roads between its points."""

import random
import unittest

from given import Checked, all_told, forked, some_deed, table, ways_from
from undotable import errors
from undotable.deeds import done
from undotable.reckon import values
from undotable.tree import Tree

NO_CELLS = ("", "a", "a0", "g1", "A1", "a10", "1a", "a1 ", "a\u0661")


class Hands(Checked):
    def test_one_to_four_hands_stand_at_point_0(self):
        for hands in (1, 2, 3, 4):
            tree = Tree(hands)
            with self.subTest(hands):
                self.assertEqual([tree.here(hand) for hand in range(hands)], [0] * hands)
                self.assertEqual(tree.many(), 1)
                for hand in (hands, hands + 1, -1, -hands, 100):
                    self.assert_refused(errors.NoHand, tree.here, hand)

    def test_no_other_number_of_hands(self):
        for hands in (0, -1, -4, 5, 6, 100):
            with self.subTest(hands):
                self.assert_refused(errors.NoHand, Tree, hands)

    def test_no_hand_is_refused_ahead_of_all_else(self):
        tree = forked()
        whole = all_told(tree, 2)
        for hand in (2, 3, 4, -1, -2, 100):
            with self.subTest(hand):
                self.assert_refused(errors.NoHand, tree.here, hand)
                self.assert_refused(errors.NoHand, tree.do, hand, ("set", "a1", "5"))
                self.assert_refused(errors.NoHand, tree.do, hand, ("set", "zz", "5"))
                self.assert_refused(errors.NoHand, tree.do, hand, ("set", "a1", "= 5"))
                self.assert_refused(errors.NoHand, tree.do, hand, ("fill", "a1", 0))
                self.assert_refused(errors.NoHand, tree.go, hand, 1)
                self.assert_refused(errors.NoHand, tree.go, hand, 7)
                self.assert_refused(errors.NoHand, tree.go, hand, -1)
        self.assertEqual(all_told(tree, 2), whole)

    def test_two_trees_have_nothing_of_each_other(self):
        one, other = Tree(2), Tree(2)
        one.do(0, ("set", "a1", "5"))
        self.assertEqual((other.many(), other.here(0), other.table(0)), (1, 0, {}))
        self.assertEqual(one.table(0), {})


class NoSuchPoint(Checked):
    def test_refused_everywhere(self):
        tree = forked()
        whole = all_told(tree, 2)
        for point in (7, 8, 100, -1, -2, -7):
            with self.subTest(point):
                for work in (tree.told, tree.table, tree.worths, tree.trail):
                    self.assert_refused(errors.NoPoint, work, point)
                self.assert_refused(errors.NoPoint, tree.road, point, 0)
                self.assert_refused(errors.NoPoint, tree.road, 0, point)
                self.assert_refused(errors.NoPoint, tree.road, point, point)
                self.assert_refused(errors.NoPoint, tree.go, 0, point)
        self.assertEqual(all_told(tree, 2), whole)

    def test_no_deed_made_point_0(self):
        self.assert_refused(errors.NoPoint, Tree(1).told, 0)
        self.assert_refused(errors.NoPoint, forked().told, 0)

    def test_in_a_new_tree(self):
        tree = Tree(1)
        for work in (tree.told, tree.table, tree.worths, tree.trail):
            self.assert_refused(errors.NoPoint, work, 1)


class Deeds(Checked):
    def test_points_are_numbered_as_they_come(self):
        tree = Tree(2)
        self.assertEqual(tree.do(0, ("set", "a1", "5")), 1)
        self.assertEqual(tree.do(1, ("set", "a1", "6")), 2)
        self.assertEqual(tree.do(0, ("swap", "a1", "b1")), 3)
        self.assertEqual(tree.many(), 4)
        self.assertEqual([tree.here(0), tree.here(1)], [3, 2])

    def test_a_point_comes_from_the_one_where_the_hand_stands(self):
        self.assertEqual([forked().told(point) for point in range(1, 7)], [
            (0, 0, ("set", "a1", "5")), (1, 0, ("set", "b1", "= a1")), (2, 0, ("swap", "a1", "c1")),
            (1, 1, ("fill", "a1", 2)), (4, 1, ("set", "a1", "")), (0, 0, ("set", "f9", "-7"))])

    def test_tables_at_all_points(self):
        tree = forked()
        self.assertEqual([tree.table(point) for point in range(7)], [
            {}, table(a1="5"), table(a1="5", b1="= a1"), table(b1="= a1", c1="5"),
            table(a1="5", a2="5", a3="5"), table(a2="5", a3="5"), table(f9="-7")])

    def test_values_at_all_points(self):
        tree = forked()
        tree.do(0, ("set", "a1", "= mul f9 b1"))
        tree.do(0, ("set", "b1", "= a1"))
        tree.do(0, ("set", "b1", "= mul 999999 999999"))
        self.assertEqual([tree.worths(point) for point in range(10)], [
            {}, {"a1": 5}, {"a1": 5, "b1": 5}, {"b1": 0, "c1": 5}, {"a1": 5, "a2": 5, "a3": 5},
            {"a2": 5, "a3": 5}, {"f9": -7}, {"f9": -7, "a1": 0},
            {"f9": -7, "a1": ("odd", "ring"), "b1": ("odd", "ring")},
            {"f9": -7, "a1": ("odd", "wide"), "b1": ("odd", "wide")}])
        for point in range(10):
            self.assertEqual(tree.worths(point), values(tree.table(point)))

    def test_a_deed_that_changes_nothing_makes_a_point(self):
        tree = Tree(1)
        for many, deed in enumerate((
            ("set", "a1", ""), ("swap", "a1", "b1"), ("swap", "c1", "c1"), ("fill", "a1", 8),
        )):
            self.assertEqual(tree.do(0, deed), many + 1)
            self.assertEqual(tree.here(0), many + 1)
            self.assertEqual(tree.many(), many + 2)
            self.assertEqual(tree.told(many + 1), (many, 0, deed))
            self.assertEqual(tree.table(many + 1), {})
        self.assertEqual(tree.trail(4), [0, 1, 2, 3, 4])
        self.assertEqual(tree.road(4, 2), [("back", 4), ("back", 3)])

    def test_the_same_deed_twice_makes_two_points(self):
        tree = Tree(2)
        self.assertEqual(tree.do(0, ("set", "a1", "5")), 1)
        self.assertEqual(tree.do(1, ("set", "a1", "5")), 2)
        self.assertEqual(tree.told(2), (0, 1, ("set", "a1", "5")))
        self.assertEqual(tree.road(1, 2), [("back", 1), ("forth", 2)])

    def test_what_was_there_stays_as_it_was(self):
        tree = forked()
        tables = [tree.table(point) for point in range(7)]
        tree.go(1, 4)
        tree.do(1, ("swap", "a1", "a3"))
        tree.do(1, ("fill", "b1", 8))
        self.assertEqual([tree.table(point) for point in range(7)], tables)

    def test_more_points_than_eighty_raise_nothing(self):
        tree = Tree(1)
        for number in range(1, 91):
            self.assertEqual(tree.do(0, ("set", "a1", str(number))), number)
        self.assertEqual(tree.many(), 91)
        self.assertEqual(tree.table(90), {"a1": ("num", 90)})
        self.assertEqual(len(tree.road(90, 0)), 90)


class RefusedDeeds(Checked):
    def assert_nothing_done(self, kind, tree, hand, deed):
        whole = all_told(tree, 2)
        with self.subTest(deed):
            self.assert_refused(kind, tree.do, hand, deed)
            self.assertEqual(all_told(tree, 2), whole)

    def test_no_cell(self):
        tree = forked()
        for cell in NO_CELLS:
            for deed in (("set", cell, "5"), ("set", cell, ""), ("swap", cell, "a1"), ("swap", "a1", cell),
                         ("swap", cell, cell), ("fill", cell, 1)):
                self.assert_nothing_done(errors.NoCell, tree, 0, deed)

    def test_no_cell_ahead_of_the_rest(self):
        tree = forked()
        for cell in NO_CELLS:
            for deed in (("set", cell, "= 5"), ("set", cell, "05"), ("fill", cell, 0), ("fill", cell, 9),
                         ("fill", cell, -1)):
                self.assert_nothing_done(errors.NoCell, tree, 1, deed)

    def test_bad_formula(self):
        tree = forked()
        for text in ("= 5", "05", " ", "a1", "= a0", "= sum g1 a1", "= add 1", "1000000", "= " + "add 1 " * 5 + "1"):
            self.assert_nothing_done(errors.BadFormula, tree, 0, ("set", "a1", text))

    def test_off_table_by_the_number(self):
        tree = forked()
        for cell, many in (("a1", 0), ("a1", -1), ("a1", 9), ("a1", 100), ("a9", 1), ("a9", 0), ("c5", 5),
                           ("f9", -8), ("f1", 10 ** 12)):
            self.assert_nothing_done(errors.OffTable, tree, 0, ("fill", cell, many))
            self.assert_nothing_done(errors.OffTable, tree, 1, ("fill", cell, many))

    def test_off_table_by_what_is_filled(self):
        tree = Tree(2)
        tree.do(0, ("set", "a1", "= add 1 sum b1 b7"))
        tree.do(0, ("set", "a2", "8"))
        for many in (3, 4, 8):
            self.assert_nothing_done(errors.OffTable, tree, 0, ("fill", "a1", many))
        self.assertEqual(tree.do(0, ("fill", "a1", 2)), 3)
        # Elsewhere in the tree the same deed is let by.
        self.assertEqual(tree.do(1, ("fill", "a1", 8)), 4)

    def test_the_next_deed_makes_the_next_point(self):
        tree = Tree(1)
        self.assert_refused(errors.NoCell, tree.do, 0, ("set", "a0", "5"))
        self.assertEqual(tree.do(0, ("set", "a1", "5")), 1)
        self.assert_refused(errors.BadFormula, tree.do, 0, ("set", "a1", "= 5"))
        self.assert_refused(errors.OffTable, tree.do, 0, ("fill", "a1", 9))
        self.assertEqual(tree.do(0, ("fill", "a1", 8)), 2)
        self.assertEqual(tree.told(2), (1, 0, ("fill", "a1", 8)))


class Roads(Checked):
    def test_trails(self):
        tree = forked()
        self.assertEqual([tree.trail(point) for point in range(7)], [
            [0], [0, 1], [0, 1, 2], [0, 1, 2, 3], [0, 1, 4], [0, 1, 4, 5], [0, 6]])

    def test_a_road_up(self):
        tree = forked()
        self.assertEqual(tree.road(3, 1), [("back", 3), ("back", 2)])
        self.assertEqual(tree.road(5, 0), [("back", 5), ("back", 4), ("back", 1)])

    def test_a_road_down(self):
        tree = forked()
        self.assertEqual(tree.road(1, 3), [("forth", 2), ("forth", 3)])
        self.assertEqual(tree.road(0, 5), [("forth", 1), ("forth", 4), ("forth", 5)])

    def test_a_road_over_a_fork(self):
        tree = forked()
        self.assertEqual(tree.road(3, 5), [("back", 3), ("back", 2), ("forth", 4), ("forth", 5)])
        self.assertEqual(tree.road(5, 2), [("back", 5), ("back", 4), ("forth", 2)])
        self.assertEqual(tree.road(6, 4), [("back", 6), ("forth", 1), ("forth", 4)])
        self.assertEqual(tree.road(3, 6), [("back", 3), ("back", 2), ("back", 1), ("forth", 6)])

    def test_a_road_to_itself(self):
        tree = forked()
        for point in range(7):
            self.assertEqual(tree.road(point, point), [])

    def test_steps_and_roads_are_of_their_kinds(self):
        told = forked().road(3, 5)
        self.assertIs(type(told), list)
        self.assertEqual([type(step) for step in told], [tuple] * 4)

    def test_go_tells_the_road_and_moves_that_hand_alone(self):
        tree = Tree(3)
        for number in range(3):
            tree.do(0, ("set", "a1", str(number)))
        tree.go(1, 1)
        tree.do(1, ("set", "b1", "5"))
        self.assertEqual([tree.here(hand) for hand in range(3)], [3, 4, 0])
        self.assertEqual(tree.go(0, 4), [("back", 3), ("back", 2), ("forth", 4)])
        self.assertEqual([tree.here(hand) for hand in range(3)], [4, 4, 0])
        self.assertEqual(tree.go(2, 2), [("forth", 1), ("forth", 2)])
        self.assertEqual([tree.here(hand) for hand in range(3)], [4, 4, 2])
        self.assertEqual(tree.go(1, 0), [("back", 4), ("back", 1)])
        self.assertEqual(tree.go(1, 0), [])
        self.assertEqual([tree.here(hand) for hand in range(3)], [4, 0, 2])
        self.assertEqual(tree.many(), 5)

    def test_a_refused_walk_moves_nobody(self):
        tree = forked()
        self.assert_refused(errors.NoPoint, tree.go, 1, 7)
        self.assertEqual([tree.here(0), tree.here(1)], [6, 5])


class Steps(Checked):
    def test_forth_and_back(self):
        tree = forked()
        for point in range(1, 7):
            origin = tree.told(point)[0]
            with self.subTest(point):
                self.assertEqual(tree.stepped(tree.table(origin), ("forth", point)), tree.table(point))
                self.assertEqual(tree.stepped(tree.table(point), ("back", point)), tree.table(origin))

    def test_contents_that_are_handed_in_stay(self):
        tree = forked()
        for step, point in ((("forth", 3), 2), (("back", 3), 3), (("forth", 6), 0), (("back", 5), 5)):
            contents = tree.table(point)
            tree.stepped(contents, step).clear()
            self.assertEqual(contents, tree.table(point))

    def test_a_step_that_changes_nothing_tells_new_contents(self):
        tree = Tree(1)
        tree.do(0, ("set", "a1", "5"))
        tree.do(0, ("set", "a1", "5"))
        contents = tree.table(1)
        for step in (("forth", 2), ("back", 2)):
            told = tree.stepped(contents, step)
            self.assertEqual(told, contents)
            self.assertIsNot(told, contents)

    def test_along_each_road_and_back(self):
        tree = forked()
        for one in range(7):
            for other in range(7):
                contents = tree.table(one)
                for step in tree.road(one, other):
                    contents = tree.stepped(contents, step)
                self.assertEqual(contents, tree.table(other))
                for step in tree.road(other, one):
                    contents = tree.stepped(contents, step)
                self.assertEqual(contents, tree.table(one))


class ToldIsNew(Checked):
    def test_told_lists_and_dicts_can_be_cleared(self):
        tree = forked()
        whole = all_told(tree, 2)
        for point in range(7):
            tree.table(point).clear()
            tree.worths(point).clear()
            tree.trail(point).clear()
            for other in range(7):
                tree.road(point, other).clear()
        tree.go(0, 6).clear()
        tree.go(1, 3).clear()
        tree.go(1, 5).clear()
        self.assertEqual(all_told(tree, 2), whole)

    def test_told_can_be_written_into(self):
        tree = forked()
        whole = all_told(tree, 2)
        for point in range(7):
            tree.table(point)["e5"] = ("num", 5)
            tree.worths(point)["e5"] = 5
            tree.trail(point).append(9)
            tree.road(point, 0).append(("back", 9))
        self.assertEqual(all_told(tree, 2), whole)
        tree.do(0, ("set", "e1", "= e5"))
        self.assertEqual(tree.table(7), table(f9="-7", e1="= e5"))

    def test_stepped_contents_can_be_cleared(self):
        tree = forked()
        whole = all_told(tree, 2)
        for one in range(7):
            for other in range(7):
                for step in tree.road(one, other)[:1]:
                    tree.stepped(tree.table(one), step).clear()
        self.assertEqual(all_told(tree, 2), whole)


class ManyTrees(Checked):
    def test_trees_of_eighty_points_as_by_the_long_way(self):
        chance = random.Random(9)
        for hands in (1, 2, 3, 4):
            tree, stands, origins, tables = Tree(hands), [0] * hands, [None], [{}]
            while len(tables) < 80:
                hand = chance.randrange(hands)
                if chance.randrange(4) == 0:
                    stands[hand] = chance.randrange(len(tables))
                    tree.go(hand, stands[hand])
                deed = some_deed(chance)
                try:
                    behind = done(tables[stands[hand]], deed)
                except errors.OffTable:
                    self.assert_refused(errors.OffTable, tree.do, hand, deed)
                else:
                    self.assertEqual(tree.do(hand, deed), len(tables))
                    self.assertEqual(tree.told(len(tables)), (stands[hand], hand, deed))
                    origins.append(stands[hand])
                    stands[hand] = len(tables)
                    tables.append(behind)
                self.assertEqual([tree.here(at) for at in range(hands)], stands)
                self.assertEqual(tree.many(), len(tables))
            self.assert_tree(tree, origins, tables)

    def assert_tree(self, tree, origins, tables):
        for point, contents in enumerate(tables):
            self.assertEqual(tree.table(point), contents)
            self.assertEqual(tree.worths(point), values(contents))
        for one in range(0, len(tables), 3):
            ways = ways_from(origins, one)
            for other in range(len(tables)):
                self.assertEqual(tree.road(one, other), ways[other])
                contents = tables[one]
                for step in ways[other]:
                    contents = tree.stepped(contents, step)
                self.assertEqual(contents, tables[other])


if __name__ == "__main__":
    unittest.main()

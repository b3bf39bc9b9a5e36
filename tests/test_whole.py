"""Points 1, 2, 9 and 10 over the whole program, with deeds taken out and points joined."""

import random
import unittest

from given import Checked, all_told, forked, some_deed, some_tree, ways_from
from undotable import cells, deeds, errors, formulas, notes, reckon
from undotable.joining import joined
from undotable.middle import leans, reads, without
from undotable.tree import Tree

KINDS = (errors.NoCell, errors.BadFormula, errors.OffTable, errors.NoPoint, errors.NoHand, errors.BadNote)
DEED = ("set", "a1", "5")


def grown():
    """A tree of two hands, 12 points, where deeds were taken out and points joined."""
    tree = forked()
    without(tree, 0, 1, 3, True)
    joined(tree, 1, 7, 5)
    without(tree, 1, 2, 3, False)
    joined(tree, 0, 6, 2)
    return tree


def with_a_point(tree, point):
    """All ways to ask a tree for a point alone; the last ones name another one, too."""
    return [
        lambda: tree.told(point), lambda: tree.table(point), lambda: tree.worths(point), lambda: tree.trail(point),
        lambda: leans(tree, point), lambda: reads(tree, point), lambda: tree.road(point, 0),
        lambda: tree.road(0, point), lambda: tree.road(point, point),
    ]


def with_a_hand(tree, hand):
    """All ways to ask a tree for a hand alone."""
    return [
        lambda: tree.here(hand), lambda: tree.do(hand, DEED), lambda: tree.do(hand, ("set", "zz", "= 5")),
        lambda: tree.do(hand, ("set", "a1", "= 5")), lambda: tree.do(hand, ("fill", "a1", 9)),
    ]


def with_both(tree, hand, point):
    """All ways to ask a tree for a hand and a point."""
    return [
        lambda: tree.go(hand, point),
        lambda: without(tree, hand, point, 3, True), lambda: without(tree, hand, point, 3, False),
        lambda: without(tree, hand, 1, point, True), lambda: without(tree, hand, 1, point, False),
        lambda: without(tree, hand, point, point, True), lambda: without(tree, hand, point, point, False),
        lambda: joined(tree, hand, point, 3), lambda: joined(tree, hand, 3, point),
        lambda: joined(tree, hand, point, point),
    ]


def changed_deeply(told):
    """Writes into all that was told, as deep as it can be written into."""
    if isinstance(told, (list, tuple)):
        for value in told:
            changed_deeply(value)
    if isinstance(told, dict):
        told["e5"] = 5
        del told["e5"]
    if isinstance(told, list):
        told.append(9)
    if isinstance(told, (list, dict)):
        told.clear()


class WhatThereIsNot(Checked):
    def assert_all_refused(self, kind, make, asks):
        tree = make()
        whole = all_told(tree, 2)
        for at, ask in enumerate(asks(tree)):
            with self.subTest(at):
                self.assert_refused(kind, ask)
                self.assertEqual(all_told(tree, 2), whole)

    def test_no_such_point(self):
        for make in (forked, grown):
            many = make().many()
            for point in (many, many + 1, 1000, -1, -2, -many, -many - 1):
                self.assert_all_refused(errors.NoPoint, make, lambda tree: with_a_point(tree, point))
                for hand in (0, 1):
                    self.assert_all_refused(errors.NoPoint, make, lambda tree: with_both(tree, hand, point))

    def test_no_such_hand(self):
        for make in (forked, grown):
            for hand in (2, 3, 4, 1000, -1, -2, -3):
                self.assert_all_refused(errors.NoHand, make, lambda tree: with_a_hand(tree, hand))
                for point in (0, 1, 2, 1000, -1):
                    self.assert_all_refused(errors.NoHand, make, lambda tree: with_both(tree, hand, point))

    def test_point_0_where_a_deed_is_asked_for(self):
        for make in (forked, grown):
            self.assert_all_refused(errors.NoPoint, make, lambda tree: [
                lambda: tree.told(0), lambda: leans(tree, 0), lambda: reads(tree, 0),
                lambda: without(tree, 0, 0, 3, True), lambda: without(tree, 1, 0, 0, False)])

    def test_a_deed_that_is_refused(self):
        for kind, deed in (
            (errors.NoCell, ("set", "a0", "= 5")), (errors.NoCell, ("swap", "a1", "")),
            (errors.NoCell, ("fill", "g1", 0)), (errors.BadFormula, ("set", "a1", "= 5")),
            (errors.OffTable, ("fill", "a1", 9)),
        ):
            self.assert_all_refused(kind, grown, lambda tree: [
                lambda: tree.do(0, deed), lambda: tree.do(1, deed)])

    def test_numbers_of_hands(self):
        for hands in (0, 5, -1, 1000):
            self.assert_refused(errors.NoHand, Tree, hands)

    def test_a_hand_that_only_another_tree_has(self):
        for hand in (1, 2, 3):
            self.assertEqual(joined(Tree(4), hand, 0, 0), (0, [], []))
            self.assert_refused(errors.NoHand, joined, Tree(hand), hand, 0, 0)

    def test_each_refusal_is_a_table_error_and_none_of_the_others(self):
        self.assertTrue(issubclass(errors.TableError, ValueError))
        for kind in KINDS:
            self.assertEqual([other for other in KINDS if issubclass(kind, other)], [kind])
            self.assertTrue(issubclass(kind, errors.TableError))


class ToldIsNew(Checked):
    def test_all_that_a_tree_tells_can_be_written_into(self):
        tree = grown()
        whole = all_told(tree, 2)
        changed_deeply(list(all_told(tree, 2)))
        for point in range(1, tree.many()):
            for ask in with_a_point(tree, point):
                changed_deeply(ask())
        for other in range(tree.many()):
            changed_deeply([tree.go(0, other), tree.go(1, other)])
        tree.go(0, whole[0][0])
        tree.go(1, whole[0][1])
        self.assertEqual(all_told(tree, 2), whole)

    def test_what_made_points_can_be_written_into(self):
        one, other = grown(), grown()
        for tree in (one, other):
            for told in (
                without(tree, 0, 1, 3, True), without(tree, 1, 1, 3, False), joined(tree, 0, 8, 3),
                joined(tree, 1, 4, 8), without(tree, 0, 8, 8, True), joined(tree, 1, 2, 2),
            ):
                if tree is other:
                    changed_deeply(told)
        self.assertEqual(all_told(other, 2), all_told(one, 2))

    def test_contents_that_are_handed_in_stay(self):
        tree = grown()
        for point in range(tree.many()):
            contents = tree.table(point)
            whole = dict(contents)
            cell = sorted(contents)[:1] or ["a1"]
            changed_deeply([
                reckon.values(contents), reckon.touched(contents, cell), deeds.changes(contents, DEED),
                reckon.renewed(contents, reckon.values(contents), cell), deeds.done(contents, DEED)])
            for step in tree.road(point, 0)[:1]:
                changed_deeply(tree.stepped(contents, step))
            self.assertEqual(contents, whole)
            self.assertEqual(tree.table(point), whole)

    def test_lists_of_no_tree_can_be_written_into(self):
        for ask in (
            lambda: cells.stretch("a1", "b2"), lambda: formulas.read_cells(formulas.read("= sum a1 b2")),
            lambda: deeds.uses(("fill", "a1", 2)), lambda: deeds.uses(("swap", "a1", "a1")),
        ):
            told = list(ask())
            changed_deeply(ask())
            self.assertEqual(ask(), told)


class Grown(Checked):
    def grow(self, chance, tree, hands):
        """Asks for one of all the ways to make points."""
        hand, point = chance.randrange(hands), chance.randrange(tree.many())
        trail = tree.trail(point)[1:]
        word = chance.choice(["do", "do", "do", "go", "without", "joined"])
        if word == "go":
            tree.go(hand, point)
        elif word == "without" and trail:
            without(tree, hand, chance.choice(trail), point, chance.choice([True, False]))
        elif word == "joined":
            joined(tree, hand, point, chance.randrange(tree.many()))
        else:
            try:
                tree.do(hand, some_deed(chance))
            except errors.OffTable:
                pass

    def test_trails_roads_and_steps(self):
        for seed in range(12):
            chance = random.Random(seed)
            tree = some_tree(chance, 3, 6)
            while tree.many() < 60:
                self.grow(chance, tree, 3)
            self.assert_ways(tree)

    def assert_ways(self, tree):
        many = tree.many()
        origins = [None] + [tree.told(point)[0] for point in range(1, many)]
        for one in range(0, many, 5):
            ways = ways_from(origins, one)
            self.assertEqual(tree.trail(one), [0] + [step[1] for step in ways_from(origins, 0)[one]])
            for other in range(many):
                self.assertEqual(tree.road(one, other), ways[other])
                contents = tree.table(one)
                for step in ways[other]:
                    contents = tree.stepped(contents, step)
                self.assertEqual(contents, tree.table(other))
                tree.go(2, one)
                self.assertEqual(tree.go(2, other), ways[other])
                self.assertEqual(tree.here(2), other)
        self.assertEqual(tree.many(), many)

    def test_each_table_is_its_origins_behind_its_deed(self):
        for seed in range(12):
            chance = random.Random(seed)
            tree = Tree(2)
            while tree.many() < 60:
                self.grow(chance, tree, 2)
            for point in range(1, tree.many()):
                origin, hand, deed = tree.told(point)
                self.assertIn(hand, (0, 1))
                self.assertLess(origin, point)
                self.assertEqual(tree.table(point), deeds.done(tree.table(origin), deed))
                self.assertEqual(tree.worths(point), reckon.values(tree.table(point)))
                changed = [row[0] for row in deeds.changes(tree.table(origin), deed)]
                self.assertEqual(
                    reckon.renewed(tree.table(point), tree.worths(origin), changed), tree.worths(point))

    def test_the_same_asks_make_the_same_tree(self):
        texts = []
        for _ in range(2):
            chance = random.Random(5)
            tree = Tree(4)
            while tree.many() < 80:
                self.grow(chance, tree, 4)
            texts.append(notes.written(tree))
        self.assertEqual(texts[0], texts[1])


if __name__ == "__main__":
    unittest.main()

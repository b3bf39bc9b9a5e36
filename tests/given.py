"""What several files of tests need: trees to ask, all that they tell, and what is refused."""

import unittest

from undotable import errors
from undotable.formulas import read
from undotable.middle import leans, reads
from undotable.notes import written
from undotable.tree import Tree

# Few cells, so that deeds come upon each other.
CELLS = ("a1", "a2", "a3", "b1", "b2", "b6")
TEXTS = ("", "5", "-7", "= a1", "= sum a1 b3", "= add c2 -4", "= pick a1 b2 c3 a6", "= b8", "= mul a1 c9")


def table(**texts):
    """Contents by the texts of their cells."""
    return {cell: read(text) for cell, text in texts.items()}


def chain(*deeds):
    """A tree of one hand that did some deeds in a row."""
    tree = Tree(1)
    for deed in deeds:
        tree.do(0, deed)
    return tree


def forked():
    """A tree of two hands: 0-1-2-3, 4 and 5 behind 1, 6 behind 0; hand 0 at 6, hand 1 at 5."""
    tree = Tree(2)
    tree.do(0, ("set", "a1", "5"))
    tree.do(0, ("set", "b1", "= a1"))
    tree.do(0, ("swap", "a1", "c1"))
    tree.go(1, 1)
    tree.do(1, ("fill", "a1", 2))
    tree.do(1, ("set", "a1", ""))
    tree.go(0, 0)
    tree.do(0, ("set", "f9", "-7"))
    return tree


def all_told(tree, hands):
    """All that a tree tells."""
    points = range(tree.many())
    return (
        [tree.here(hand) for hand in range(hands)],
        [tree.told(point) for point in points if point > 0],
        [tree.table(point) for point in points],
        [tree.worths(point) for point in points],
        [tree.trail(point) for point in points],
        [tree.road(one, other) for one in points for other in points],
        [(leans(tree, point), reads(tree, point)) for point in points if point > 0],
        written(tree),
    )


def some_deed(chance):
    """Any deed over a few cells; some are refused with OffTable."""
    return chance.choice([
        ("set", chance.choice(CELLS), chance.choice(TEXTS)),
        ("swap", chance.choice(CELLS), chance.choice(CELLS)),
        ("fill", chance.choice(CELLS), chance.randrange(0, 5)),
    ])


def some_tree(chance, hands, many):
    """Any tree of some hands with so many points."""
    tree = Tree(hands)
    while tree.many() < many:
        hand = chance.randrange(hands)
        if chance.randrange(8) == 0:
            tree.go(hand, chance.randrange(tree.many()))
        try:
            tree.do(hand, some_deed(chance))
        except errors.OffTable:
            pass
    return tree


def ways_from(origins, start):
    """The fewest steps from a point to each one, by going ever further from it."""
    ways, border = {start: []}, [start]
    while border:
        point = border.pop(0)
        near = [(origins[point], ("back", point))] if point > 0 else []
        near += [(k, ("forth", k)) for k, origin in enumerate(origins) if origin == point]
        for there, step in near:
            if there not in ways:
                ways[there] = ways[point] + [step]
                border.append(there)
    return ways


class Checked(unittest.TestCase):
    def assert_refused(self, kind, work, *given):
        with self.assertRaises(errors.TableError) as caught:
            work(*given)
        self.assertIs(type(caught.exception), kind)

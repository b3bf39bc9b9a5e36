"""Joining two points: the deeds of one branch are done anew behind the other one."""

from undotable.deeds import uses
from undotable.middle import done_anew, is_leaning


def joined(tree, hand, one, other):
    """Does anew, behind one point, what leads from the fork to another, and tells what came of it."""
    tree.check_hand(hand)
    near = tree.trail(one)
    far = tree.trail(other)
    fork = [point for point in far if point in near][-1]
    behind = [point for point in far if point not in near]
    unlike = unlike_cells(tree.table(fork), tree.table(one))
    tree.go(hand, one)
    return done_anew(
        tree, hand, behind,
        lambda elder, left: is_using(tree, elder, unlike) or is_leaning(tree, elder, left),
    )


def unlike_cells(elder, newer):
    """The cells that have another content in newer contents than in elder ones."""
    return [cell for cell in {**elder, **newer} if elder.get(cell) != newer.get(cell)]


def is_using(tree, point, cells):
    """Whether a point's deed uses one of the cells."""
    deed = tree.told(point)[2]
    return any(cell in cells for cell in uses(deed))

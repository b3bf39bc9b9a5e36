"""The middle of a trail: what a deed there leans on and reads, and how it is taken out."""

from undotable.deeds import uses
from undotable.errors import NoPoint, OffTable
from undotable.reckon import come_to, reads_of


def leans(tree, point):
    """The points ahead that last changed a cell which a point's deed uses, rising."""
    origin, _, deed = tree.told(point)
    return last_to_change(tree, tree.trail(origin), uses(deed))


def reads(tree, point):
    """The points that last changed a cell to which the contents that a point's deed puts come, rising."""
    if point == 0:
        raise NoPoint("no deed made point 0")
    inner = reads_of(tree.table(point))
    rows = tree.points[point].rows
    cells = [cell for row in rows for cell in come_to(inner, row[0])]
    return last_to_change(tree, tree.trail(point), cells)


def without(tree, hand, gone, point, falls):
    """Takes a point's deed out of the trail to another point, and tells what came of it."""
    tree.check_hand(hand)
    trail = tree.trail(point)
    if gone == 0 or gone not in trail:
        raise NoPoint(f"no deed on the trail to {point}: {gone}")
    origin = tree.told(gone)[0]
    tree.go(hand, origin)
    behind = trail[trail.index(gone) + 1:]
    return done_anew(
        tree, hand, behind,
        lambda elder, left: falls and is_leaning(tree, elder, [gone, *left]),
    )


def last_to_change(tree, points, cells):
    """Those of a trail's points that last changed one of the cells, rising."""
    last = {}
    for point in points:
        for row in tree.points[point].rows:
            last[row[0]] = point
    return sorted({last[cell] for cell in cells if cell in last})


def is_leaning(tree, point, lost):
    """Whether a point's deed leans on one of the points that are lost."""
    return any(ahead in lost for ahead in leans(tree, point))


def done_anew(tree, hand, points, is_out):
    """Does the deeds of points anew by a hand, where it stands, and tells what came of it.

    is_out tells whether a point is left out, by those left out ahead of it.
    """
    left = []
    pairs = []
    for elder in points:
        newer = None if is_out(elder, left) else newer_point(tree, hand, elder)
        if newer is None:
            left.append(elder)
        else:
            pairs.append((elder, newer))
    return tree.here(hand), left, pairs


def newer_point(tree, hand, elder):
    """The new point of the same deed; None where it is refused there."""
    deed = tree.told(elder)[2]
    try:
        return tree.do(hand, deed)
    except OffTable:
        return None

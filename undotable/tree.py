"""The tree of all points that the table was at, and the hands that stand there."""

from undotable.deeds import changes, replaced
from undotable.errors import NoHand, NoPoint
from undotable.reckon import values

MOST_HANDS = 4


class Point:
    """A point: where it comes from, whose deed made it, and what that changed."""

    def __init__(self, origin, hand, deed, rows, contents):
        self.origin = origin
        self.hand = hand
        self.deed = deed
        self.rows = rows
        self.contents = contents


class Tree:
    """Points from the empty table on, and hands that each stand at one of them."""

    def __init__(self, hands):
        if hands < 1 or hands > MOST_HANDS:
            raise NoHand(f"no tree has so many hands: {hands}")
        self.stands = [0] * hands
        self.points = [Point(None, None, None, [], {})]

    def do(self, hand, deed):
        """Does a hand's deed, and tells the new point."""
        self.check_hand(hand)
        origin = self.stands[hand]
        contents = self.points[origin].contents
        # Refuses ahead of all that is changed here.
        rows = changes(contents, deed)
        newer = replaced(contents, {row[0]: row[2] for row in rows})
        self.points.append(Point(origin, hand, deed, rows, newer))
        self.stands[hand] = len(self.points) - 1
        return self.stands[hand]

    def here(self, hand):
        """The point where a hand stands."""
        self.check_hand(hand)
        return self.stands[hand]

    def told(self, point):
        """The point from which a point comes, the hand and the deed that made it."""
        self.check_point(point)
        if point == 0:
            raise NoPoint("no deed made point 0")
        made = self.points[point]
        return made.origin, made.hand, made.deed

    def many(self):
        """How many points there are, point 0 among them."""
        return len(self.points)

    def table(self, point):
        """The contents at a point."""
        self.check_point(point)
        return dict(self.points[point].contents)

    def worths(self, point):
        """The values at a point."""
        self.check_point(point)
        return values(self.points[point].contents)

    def trail(self, point):
        """The points from 0 to a point, each coming from the one ahead."""
        self.check_point(point)
        back = [point]
        while back[-1] != 0:
            back.append(self.points[back[-1]].origin)
        return list(reversed(back))

    def road(self, one, other):
        """The fewest steps from a point to another one."""
        left = self.trail(one)
        sought = self.trail(other)
        back = [("back", point) for point in reversed(left) if point not in sought]
        forth = [("forth", point) for point in sought if point not in left]
        return back + forth

    def go(self, hand, point):
        """Leads a hand to a point, and tells the road."""
        self.check_hand(hand)
        steps = self.road(self.stands[hand], point)
        self.stands[hand] = point
        return steps

    def stepped(self, contents, step):
        """The contents behind a step, of those ahead of it."""
        way, point = step
        side = 1 if way == "back" else 2
        rows = self.points[point].rows
        return replaced(contents, {row[0]: row[side] for row in rows})

    def check_hand(self, hand):
        """Refuses what is no hand's number."""
        # A number below 0 would be counted from the last hand.
        if hand < 0 or hand >= len(self.stands):
            raise NoHand(f"no hand: {hand}")

    def check_point(self, point):
        """Refuses what is no point's number."""
        if point < 0 or point >= len(self.points):
            raise NoPoint(f"no point: {point}")

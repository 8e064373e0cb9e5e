"""What several tests use: wrong inputs, shapes drawn by a written rule, and plain ways to what is promised.

Nothing here asks the package, so that it may be held against this.
"""

from math import atan2
from unittest import TestCase

PLANE = range(13)

CORNERS = [(x, y) for x in PLANE for y in PLANE if (x % 4, y % 4) in ((0, 0), (2, 2))]

# The four cells of the square whose lower left corner is (0, 0), each by its spot.
CELLS_OF_A_SQUARE = {
    (2, 1): [(0, 0), (4, 0), (2, 2)],
    (3, 2): [(4, 0), (4, 4), (2, 2)],
    (2, 3): [(4, 4), (0, 4), (2, 2)],
    (1, 2): [(0, 4), (0, 0), (2, 2)],
}

CELLS = {
    (right + x, up + y): [(right + a, up + b) for a, b in corners]
    for right in (0, 4, 8) for up in (0, 4, 8) for (x, y), corners in CELLS_OF_A_SQUARE.items()
}

SPOTS = sorted(CELLS)

# Each of these is no place.
NO_PLACES = [
    # numbers below 0, beyond 12 and far out, that would be a spot's but for that
    (-1, 2), (2, -1), (1, -2), (-2, 1), (-3, -2), (13, 2), (2, 13), (1, 14), (14, 1), (13, 14),
    (1001, 1002), (1002, -1001), (10 ** 30 + 1, 2), (2, -(10 ** 30) - 1), (1, 2 * 10 ** 5000 + 2),
    # True and False for a number
    (True, 2), (2, True), (False, 2), (2, False), (True, 6), (10, True), (True, False), (True, True),
    # something else for a number
    (1.0, 2), (1, 2.0), (1.5, 2), ("1", 2), (1, "2"), (None, 2), (1, None), ((1,), 2), ([1], 2), (1 + 0j, 2),
    # something else for a pair
    [1, 2], [6, 5], {1: 2}, {1, 2}, range(1, 3), b"\x01\x02", "12", ((1, 2),), ((1, 2), (2, 1)), [(1, 2)],
    # one number or three in place of two, or none
    (), (1,), (2,), (1, 2, 3), (1, 2, 2), (2, 1, 2), (1, 2, 0),
    # something else altogether
    None, True, False, 0, 1, 2, 12, -1, 1.5, "", "a text", "(1, 2)", [], {}, set(), object(), int, len,
]

# Each of these is no spot: some are corners, some are places and no more, the others are no places.
WRONG_SPOTS = [
    (0, 0), (4, 8), (12, 12), (2, 2), (6, 10), (1, 1), (3, 5), (1, 4), (4, 1), (0, 2), (2, 4), (12, 11),
] + NO_PLACES

# Each of these is no corner, whatever the ring in which it stands.
WRONG_CORNERS = [
    # places that are no corners
    (0, 2), (2, 0), (2, 4), (4, 6), (6, 8), (10, 12), (1, 1), (3, 3), (5, 7), (1, 2), (2, 1), (0, 1), (4, 3), (11, 12),
    # corners but for the plane's edge, and far off
    (-4, 0), (0, -4), (-4, -4), (-2, -2), (-2, 2), (2, -2), (16, 0), (0, 16), (16, 16), (14, 14), (14, 2), (2, 14),
    (4000, 4000), (-4000, 0), (4 * 10 ** 30, 0), (0, 4 * 10 ** 5000),
    # True and False for a number
    (False, 0), (0, False), (False, False), (True, True), (4, False), (False, 8), (True, 0), (12, True),
    # something else for a number
    (0.0, 0), (0, 0.0), (4.0, 4.0), ("0", 0), (0, "0"), (None, 0), (0, None), ((0,), 0), ([0], 0), (0j, 0),
    # something else for a pair
    [0, 0], [4, 4], {0: 0, 4: 4}, {0, 4}, range(0, 5, 4), b"\x00\x04", "00", ((0, 0), (4, 4)), [(0, 0)], ((0, 0),),
    # one number or three in place of two, or none
    (), (0,), (0, 0, 0), (4, 4, 4), (0, 4, 0),
    # something else altogether
    None, True, False, 0, 4, "", "(0, 0)", [], {}, set(), object(), int, len,
]

TRIANGLE = [(0, 0), (4, 0), (4, 4)]

# Lists of rings, each wrong by one thing.
WRONG_RINGS = [
    # no list
    None, True, False, 0, 3, 1.5, "", "rings", b"", (), {}, set(), object(), list, range(3),
    (TRIANGLE,), (TRIANGLE, TRIANGLE), {0: TRIANGLE}, {"a": 1}, tuple(TRIANGLE), iter([TRIANGLE]),
    # a ring that is no list
    [None], [True], [False], [0], [3], ["abc"], [b"abc"], [()], [{}], [set()], [object()], [list], [range(3)],
    [tuple(TRIANGLE)], [{corner: True for corner in TRIANGLE}], [set(TRIANGLE)], [iter(TRIANGLE)],
    TRIANGLE, [[TRIANGLE]], [[[TRIANGLE]]],
    [TRIANGLE, None], [TRIANGLE, tuple(TRIANGLE)], [tuple(TRIANGLE), TRIANGLE], [TRIANGLE] * 63 + [()],
    # too few corners
    [[]], [[(0, 0)]], [[(0, 0), (4, 0)]], [[(0, 0), (2, 2)]], [[(0, 0), (12, 12)]],
    [TRIANGLE, []], [[], TRIANGLE], [TRIANGLE, [(0, 0), (4, 0)]], [TRIANGLE] * 63 + [[(0, 0), (4, 4)]],
    # too many corners
    [[(0, 0), (4, 0)] * 99 + TRIANGLE], [[(0, 0), (4, 0)] * 101], [TRIANGLE * 67], [TRIANGLE * 100],
    [[(0, 0), (2, 2)] * 101], [TRIANGLE, TRIANGLE * 67], [TRIANGLE * 67, TRIANGLE], [[(0, 0), (4, 0)] * 1000],
    # too many rings
    [TRIANGLE] * 65, [TRIANGLE] * 66, [TRIANGLE] * 1000, [[]] * 65, [None] * 65,
    # a corner twice running, also the last one and the first
    [[(0, 0), (0, 0), (4, 0), (4, 4)]], [[(0, 0), (4, 0), (4, 0), (4, 4)]], [[(0, 0), (4, 0), (4, 4), (4, 4)]],
    [[(0, 0), (4, 0), (4, 4), (0, 0)]], [[(0, 0), (0, 0), (0, 0)]], [[(2, 2), (2, 2), (4, 4)]], [[(2, 2)] * 4],
    [[(2, 2), (4, 4), (2, 2)]], [TRIANGLE, [(4, 0), (4, 4), (4, 0)]],
    # a side that goes no told way, from the first corner, from one between, and from the last one to the first
    [[(0, 0), (8, 4), (8, 0)]], [[(0, 0), (4, 0), (8, 12), (0, 4)]], [[(0, 0), (4, 0), (8, 4), (12, 4)]],
    [[(0, 0), (4, 8), (0, 4)]], [[(0, 0), (0, 4), (4, 0), (12, 4)]], [[(0, 12), (4, 8), (12, 4), (12, 12)]],
    [[(0, 0), (2, 2), (12, 4), (12, 0)]], [[(0, 0), (6, 2), (4, 0)]], [[(0, 0), (2, 6), (0, 4)]],
    [[(12, 12), (10, 2), (12, 0)]], [[(0, 8), (6, 6), (4, 8)]],
    # a level or an upright side between corners whose numbers leave 2
    [[(2, 2), (6, 2), (4, 4)]], [[(2, 2), (4, 4), (6, 2)]], [[(4, 4), (2, 2), (6, 2)]], [[(2, 2), (10, 2), (6, 6)]],
    [[(2, 2), (2, 6), (4, 4)]], [[(2, 2), (4, 4), (2, 6)]], [[(4, 4), (2, 6), (2, 2)]], [[(2, 10), (2, 2), (6, 6)]],
    [[(2, 2), (6, 2), (6, 6), (2, 6)]], [[(6, 10), (2, 10), (4, 8)]], [[(10, 10), (10, 6), (8, 8)]],
    [TRIANGLE, [(2, 2), (6, 2), (4, 4)]], [[(2, 2), (6, 2), (4, 4)], TRIANGLE],
]
WRONG_RINGS.extend([TRIANGLE, [wrong, *TRIANGLE]] for wrong in WRONG_CORNERS)
WRONG_RINGS.extend([TRIANGLE[:2] + [wrong] + TRIANGLE[2:], TRIANGLE] for wrong in WRONG_CORNERS)
WRONG_RINGS.extend([TRIANGLE + [wrong]] for wrong in WRONG_CORNERS)
WRONG_RINGS.extend([[(0, 0), wrong, (4, 4)]] for wrong in WRONG_CORNERS)

# Lists of rings at the edges of what point 3 lets by; the first one is the emptiest, the last one the fullest.
FINE_RINGS = [
    [],
    [TRIANGLE],
    [[(0, 0), (4, 0)] * 98 + TRIANGLE],
    [[(0, 0), (4, 0)] * 100],
    [TRIANGLE * 66 + [(0, 4), (4, 4)]],
    [[(2, 2), (4, 4)] * 100],
    [TRIANGLE] * 63,
    [TRIANGLE] * 64,
    [CELLS[spot] for spot in SPOTS] + [list(reversed(CELLS[spot])) for spot in SPOTS[:28]],
    [TRIANGLE * 66 + [(0, 4), (4, 4)]] * 64,
]


class RefusalCase(TestCase):
    def refused(self, kind, ask, *given):
        """Hold that what is asked is refused by this very kind of refusal."""
        with self.assertRaises(kind) as caught:
            ask(*given)
        self.assertIs(type(caught.exception), kind)

    def wrong_rings_are_refused(self, kind, ask, *given):
        """Hold that each list of rings that is wrong is refused, handed in before what else is given."""
        for wrong in WRONG_RINGS:
            with self.subTest(wrong=told(wrong)):
                self.refused(kind, ask, wrong, *given)


def told(wrong):
    """Name a wrong value briefly; numbers of thousands of digits cannot be shown."""
    try:
        return repr(wrong)[:200]
    except ValueError:
        return "a long number"


def sides_of(corners):
    """The sides of a ring, or the edges of a cell, as pairs of corners."""
    return list(zip(corners, corners[1:] + corners[:1]))


def steps_of(side):
    """The pieces of a side, each as long as the edge of a cell, in order."""
    (x, y), (far_x, far_y) = side
    across, up = far_x - x, far_y - y
    many = max(abs(across), abs(up)) // (2 if across and up else 4)
    places = [(x + across * k // many, y + up * k // many) for k in range(many + 1)]
    return list(zip(places, places[1:]))


def steps_of_all(rings):
    """The pieces of all sides of the rings."""
    return [step for ring in rings for side in sides_of(ring) for step in steps_of(side)]


def sides_from(corner):
    """The corners to which a side goes from this one, by point 2, told by the ways that one may go."""
    x, y = corner
    found = []
    for far in (2, 4, 6, 8, 10, 12):
        found.extend([(x + far, y + far), (x + far, y - far), (x - far, y + far), (x - far, y - far)])
    if (x % 4, y % 4) == (0, 0):
        for far in (4, 8, 12):
            found.extend([(x + far, y), (x - far, y), (x, y + far), (x, y - far)])
    return sorted(place for place in found if place in CORNERS)


SIDES_FROM = {corner: sides_from(corner) for corner in CORNERS}


class Draw:
    """Draws numbers by a written rule: the same ones on each run."""

    def __init__(self, start):
        self.state = start

    def below(self, many):
        """A number from 0 to many - 1."""
        self.state = (self.state * 6364136223846793005 + 1442695040888963407) % 2 ** 64
        return (self.state >> 33) % many

    def one_of(self, things):
        return things[self.below(len(things))]

    def spots(self, eighths):
        """A set of spots, rising: each spot is in it with so many eighths of a chance."""
        return [spot for spot in SPOTS if self.below(8) < eighths]

    def shuffled(self, things):
        """The same things in another order."""
        rest = list(things)
        return [rest.pop(self.below(len(rest))) for _ in things]

    def ring(self):
        """A ring that goes to and fro over the plane."""
        ring = [self.one_of(CORNERS)]
        for _ in range(2 + self.below(9)):
            ring.append(self.one_of(SIDES_FROM[ring[-1]]))
        while ring[0] not in SIDES_FROM[ring[-1]]:
            ring.append(self.one_of(SIDES_FROM[ring[-1]]))
        return ring

    def rings(self):
        """A list of rings, now and then with one of them twice, or the other way round."""
        rings = [self.ring() for _ in range(self.below(5))]
        if rings and self.below(4) == 0:
            rings.append(list(self.one_of(rings)))
        if rings and self.below(4) == 0:
            rings.append(list(reversed(self.one_of(rings))))
        return rings


def lies_above(side, spot):
    """Tell by the words of point 4 whether the side lies above the spot."""
    (x, y), (far_x, far_y) = side
    if not min(x, far_x) <= spot[0] < max(x, far_x):
        return False
    # The height, times the way across, so that no fractions come up.
    across = abs(far_x - x)
    height = across * y + (spot[0] - x) * (far_y - y) * (1 if far_x > x else -1)
    return height > across * spot[1]


def plain_inside(rings):
    """The spots that rings hold, by the words of point 4."""
    sides = [side for ring in rings for side in sides_of(ring)]
    return [spot for spot in SPOTS if sum(lies_above(side, spot) for side in sides) % 2]


def plain_edges(spots):
    """The edges of a shape, by the words of point 6, rising."""
    edges = {edge for spot in spots for edge in sides_of(CELLS[spot])}
    return sorted((start, end) for start, end in edges if (end, start) not in edges)


def to_the_left(edge, later):
    """The angle by which one turns to the left from edge to later; below 0 to the right."""
    (x, y), (mid_x, mid_y) = edge
    (_, _), (far_x, far_y) = later
    across, up = mid_x - x, mid_y - y
    later_across, later_up = far_x - mid_x, far_y - mid_y
    return atan2(across * later_up - up * later_across, across * later_across + up * later_up)


def plain_round(first, edges):
    """The edges that one goes along from the first one until one is back at it."""
    gone = [first]
    while True:
        onward = [edge for edge in edges if edge[0] == gone[-1][1]]
        edge = max(onward, key=lambda other: to_the_left(gone[-1], other))
        if edge == first:
            return gone
        if edge in gone:
            raise AssertionError("the round does not come back to where it began")
        gone.append(edge)


def plain_outline(spots):
    """The outline of a shape, by the words of points 6 and 7."""
    edges = plain_edges(spots)
    left = list(edges)
    outline = []
    while left:
        gone = plain_round(left[0], edges)
        left = [edge for edge in left if edge not in gone]
        corners = [later[0] for edge, later in sides_of(gone) if abs(to_the_left(edge, later)) > 0.1]
        starts = [at for at, corner in enumerate(corners) if corner == min(corners)]
        outline.append(sorted(corners[at:] + corners[:at] for at in starts)[0])
    return sorted(outline)


def plain_parts(spots):
    """The sets of spots whose cells hang together, by point 10, in the order of their least spots."""
    parts = []
    for spot in sorted(set(spots)):
        near = [part for part in parts if any(len(set(CELLS[spot]) & set(CELLS[other])) == 2 for other in part)]
        parts = [part for part in parts if part not in near]
        parts.append(sorted([spot] + [other for part in near for other in part]))
    return sorted(parts)

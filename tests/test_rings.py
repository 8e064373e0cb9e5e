"""Tests of ringland.rings: points 2, 3 and 4."""

import unittest

from helper import (
    CELLS, CORNERS, FINE_RINGS, SIDES_FROM, SPOTS, TRIANGLE, WRONG_CORNERS, WRONG_RINGS, WRONG_SPOTS, Draw,
    RefusalCase, plain_inside, sides_of, told,
)
from ringland.errors import BadRings, BadSpot
from ringland.rings import holds, inside, need

# Rings, and the spots that they hold, worked out by hand.
HELD = [
    # one cell, slanting sides between corners of both kinds
    ([[(0, 0), (4, 0), (2, 2)]], [(2, 1)]),
    ([[(4, 0), (4, 4), (2, 2)]], [(3, 2)]),
    ([[(4, 4), (0, 4), (2, 2)]], [(2, 3)]),
    ([[(0, 4), (0, 0), (2, 2)]], [(1, 2)]),
    # half a square, its one long slanting side between corners of one kind
    ([TRIANGLE], [(2, 1), (3, 2)]),
    ([[(0, 0), (4, 4), (0, 4)]], [(1, 2), (2, 3)]),
    ([[(0, 4), (4, 0), (4, 4)]], [(2, 3), (3, 2)]),
    ([[(0, 4), (0, 0), (4, 0)]], [(1, 2), (2, 1)]),
    # a square, level and upright
    ([[(4, 4), (8, 4), (8, 8), (4, 8)]], [(5, 6), (6, 5), (6, 7), (7, 6)]),
    # slanting sides alone, between corners that leave 2, and between corners of both kinds
    ([[(6, 2), (10, 6), (6, 10), (2, 6)]], [(3, 6), (5, 6), (6, 3), (6, 5), (6, 7), (6, 9), (7, 6), (9, 6)]),
    ([[(4, 4), (6, 6), (4, 8), (2, 6)]], [(3, 6), (5, 6)]),
    ([[(4, 4), (6, 2), (8, 4), (6, 6)]], [(6, 3), (6, 5)]),
    ([[(6, 2), (4, 4), (10, 10), (12, 8)]],
     [(6, 3), (6, 5), (7, 6), (9, 6), (10, 7), (10, 9)]),
    # long sides: the whole plane, and half of it
    ([[(0, 0), (12, 0), (12, 12), (0, 12)]], SPOTS),
    ([[(0, 0), (12, 12), (0, 12)]], [(x, y) for x, y in SPOTS if y > x]),
    ([[(0, 12), (12, 0), (12, 12)]], [(x, y) for x, y in SPOTS if x + y > 12]),
    # no rings, and rings without width
    ([], []),
    ([[(0, 0), (4, 0), (0, 0), (4, 0)]], []),
    ([[(0, 0), (12, 12), (4, 4)]], []),
    ([[(0, 12), (12, 12), (4, 12)]], []),
    ([[(4, 0), (4, 12), (4, 8)]], []),
    # a ring told twice, thrice, and the other way round
    ([TRIANGLE, TRIANGLE], []),
    ([TRIANGLE, TRIANGLE, TRIANGLE], [(2, 1), (3, 2)]),
    ([list(reversed(TRIANGLE))], [(2, 1), (3, 2)]),
    ([TRIANGLE, list(reversed(TRIANGLE))], []),
    ([TRIANGLE * 2], []),
    ([TRIANGLE * 3], [(2, 1), (3, 2)]),
    # a hole, whichever way round, and an island in it
    ([[(0, 0), (12, 0), (12, 12), (0, 12)], [(4, 4), (8, 4), (8, 8), (4, 8)]],
     [spot for spot in SPOTS if spot not in [(5, 6), (6, 5), (6, 7), (7, 6)]]),
    ([[(0, 0), (12, 0), (12, 12), (0, 12)], [(4, 4), (4, 8), (8, 8), (8, 4)]],
     [spot for spot in SPOTS if spot not in [(5, 6), (6, 5), (6, 7), (7, 6)]]),
    ([[(0, 0), (12, 0), (12, 12), (0, 12)], [(4, 4), (4, 8), (8, 8), (8, 4)], [(6, 6), (8, 8), (4, 8)]],
     [spot for spot in SPOTS if spot not in [(5, 6), (6, 5), (7, 6)]]),
    # two rings that cross: what both go round is not held
    ([[(0, 0), (8, 0), (8, 4), (0, 4)], [(4, 0), (4, 4), (12, 4), (12, 0)]],
     [(1, 2), (2, 1), (2, 3), (3, 2), (9, 2), (10, 1), (10, 3), (11, 2)]),
    ([[(0, 0), (4, 0), (4, 4)], [(0, 0), (4, 0), (0, 4)]], [(1, 2), (3, 2)]),
    # a ring that crosses itself, and one that touches itself at a corner
    ([[(0, 0), (4, 4), (4, 0), (0, 4)]], [(1, 2), (3, 2)]),
    ([[(0, 0), (4, 4), (0, 4), (4, 0)]], [(2, 1), (2, 3)]),
    ([[(0, 0), (4, 0), (4, 4), (8, 4), (8, 8), (4, 8), (4, 4), (0, 4)]],
     [(1, 2), (2, 1), (2, 3), (3, 2), (5, 6), (6, 5), (6, 7), (7, 6)]),
    # rings that lie on one another along a side, or a part of one
    ([[(0, 0), (4, 0), (4, 4), (0, 4)], [(4, 0), (8, 0), (8, 4), (4, 4)]],
     [(1, 2), (2, 1), (2, 3), (3, 2), (5, 2), (6, 1), (6, 3), (7, 2)]),
    ([[(0, 0), (12, 0), (12, 4), (0, 4)], [(4, 4), (8, 4), (6, 6)]],
     [(1, 2), (2, 1), (2, 3), (3, 2), (5, 2), (6, 1), (6, 3), (6, 5), (7, 2), (9, 2), (10, 1), (10, 3), (11, 2)]),
]


def turned(rings, change):
    """The rings with each corner changed."""
    return [[change(x, y) for x, y in ring] for ring in rings]


def moved(rings):
    """The rings, mirrored at each axis and turned by a quarter: what is held moves with them."""
    changes = [
        lambda x, y: (12 - x, y), lambda x, y: (x, 12 - y), lambda x, y: (y, x),
        lambda x, y: (y, 12 - x), lambda x, y: (12 - y, x), lambda x, y: (12 - x, 12 - y),
    ]
    return [(turned(rings, change), change) for change in changes]


class NeedTest(RefusalCase):
    def test_fine_rings_are_let_by(self):
        for rings in FINE_RINGS:
            with self.subTest(rings=told(rings)):
                self.assertIs(need(rings), True)

    def test_fewest_and_most_are_what_the_document_names(self):
        self.assertEqual({len(ring) for ring in FINE_RINGS[1]}, {3})
        self.assertEqual({len(ring) for ring in FINE_RINGS[-1]}, {200})
        self.assertEqual([len(FINE_RINGS[0]), len(FINE_RINGS[-1])], [0, 64])

    def test_number_of_corners_goes_from_3_to_200(self):
        to_and_fro = [(0, 0), (4, 4)] * 150
        for many in range(300):
            ring = to_and_fro[:many // 2 * 2] if many % 2 == 0 else (to_and_fro[:many - 1] + [(4, 0)])
            self.assertEqual(len(ring), many)
            if 3 <= many <= 200:
                self.assertIs(need([ring]), True, many)
            else:
                self.refused(BadRings, need, [ring])

    def test_number_of_rings_goes_from_0_to_64(self):
        for many in range(130):
            if many <= 64:
                self.assertIs(need([TRIANGLE] * many), True, many)
            else:
                self.refused(BadRings, need, [TRIANGLE] * many)

    def test_sides_go_as_point_2_tells_for_each_two_places(self):
        places = [(x, y) for x in range(-4, 17) for y in range(-4, 17)]
        for start in places:
            for end in places:
                side = end in SIDES_FROM.get(start, [])
                rings = [[start, end, start, end]]
                if side:
                    self.assertIs(need(rings), True, rings)
                else:
                    self.assertRaises(BadRings, need, rings)

    def test_sides_worked_out_by_hand(self):
        self.assertEqual(SIDES_FROM[(0, 0)], [
            (0, 4), (0, 8), (0, 12), (2, 2), (4, 0), (4, 4), (6, 6), (8, 0), (8, 8), (10, 10), (12, 0), (12, 12),
        ])
        self.assertEqual(SIDES_FROM[(2, 6)], [(0, 4), (0, 8), (4, 4), (4, 8), (6, 2), (6, 10), (8, 0), (8, 12)])
        self.assertEqual(len(CORNERS), 25)

    def test_each_side_of_a_ring_counts_also_the_last_one(self):
        # Rings of four corners, of which the last side alone may go no told way.
        for first in CORNERS:
            for second in SIDES_FROM[first]:
                for third in SIDES_FROM[second]:
                    for last in SIDES_FROM[third]:
                        rings = [[first, second, third, last]]
                        if first in SIDES_FROM[last]:
                            self.assertIs(need(rings), True, rings)
                        else:
                            self.assertRaises(BadRings, need, rings)

    def test_corner_may_stand_in_a_ring_twice_but_not_twice_running(self):
        self.assertIs(need([[(0, 0), (4, 0), (0, 0), (2, 2)]]), True)
        self.assertIs(need([[(0, 0), (4, 4), (8, 4), (8, 8), (4, 4), (0, 4)]]), True)
        self.refused(BadRings, need, [[(0, 0), (0, 0), (4, 4), (0, 4)]])
        self.refused(BadRings, need, [[(0, 0), (4, 4), (0, 4), (0, 0)]])

    def test_drawn_rings_are_let_by(self):
        draw = Draw(3)
        for _ in range(300):
            rings = draw.rings()
            self.assertIs(need(rings), True, rings)

    def test_drawn_rings_with_one_wrong_corner_are_refused(self):
        draw = Draw(4)
        for wrong in WRONG_CORNERS * 3:
            ring = draw.ring()
            ring[draw.below(len(ring))] = wrong
            rings = [draw.ring(), draw.ring()]
            rings.insert(draw.below(3), ring)
            with self.subTest(rings=told(rings)):
                self.refused(BadRings, need, rings)

    def test_wrong_rings_are_refused(self):
        self.wrong_rings_are_refused(BadRings, need)

    def test_rings_that_are_deep_or_hold_themselves_are_refused(self):
        deep = []
        for _ in range(100000):
            deep = [deep]
        knot = []
        knot.extend([knot, knot, knot])
        for corner in (deep, knot, (deep, 0), (0, knot)):
            self.refused(BadRings, need, [[(0, 0), corner, (4, 4)]])
        for wrong in (deep, [deep], knot, [knot]):
            self.refused(BadRings, need, wrong)


class InsideTest(RefusalCase):
    def test_rings_worked_out_by_hand(self):
        for rings, spots in HELD:
            with self.subTest(rings=rings):
                self.assertEqual(inside(rings), spots)

    def test_rings_worked_out_by_hand_mirrored_and_turned(self):
        for rings, spots in HELD:
            for other, change in moved(rings):
                with self.subTest(rings=other):
                    self.assertEqual(inside(other), sorted(change(x, y) for x, y in spots))

    def test_each_cell_as_a_ring_holds_its_spot_alone(self):
        for spot, corners in CELLS.items():
            for at in range(3):
                ring = corners[at:] + corners[:at]
                self.assertEqual(inside([ring]), [spot])
                self.assertEqual(inside([list(reversed(ring))]), [spot])

    def test_drawn_rings_hold_what_point_4_tells(self):
        draw = Draw(5)
        for _ in range(1500):
            rings = draw.rings()
            self.assertEqual(inside(rings), plain_inside(rings), rings)

    def test_drawn_rings_hold_the_same_seen_from_each_of_four_sides(self):
        # Closed rings lie above a spot, below it and beside it an odd number of times, or each an even one.
        draw = Draw(6)
        for _ in range(300):
            rings = draw.rings()
            spots = inside(rings)
            for other, change in moved(rings):
                self.assertEqual(inside(other), sorted(change(x, y) for x, y in spots), rings)

    def test_way_round_and_beginning_of_a_ring_and_order_of_rings_do_not_count(self):
        draw = Draw(7)
        for _ in range(200):
            rings = draw.rings()
            spots = inside(rings)
            self.assertEqual(inside([list(reversed(ring)) for ring in rings]), spots)
            self.assertEqual(inside([ring[1:] + ring[:1] for ring in rings]), spots)
            self.assertEqual(inside(draw.shuffled(rings)), spots)
            self.assertEqual(inside(rings + rings), [])
            self.assertEqual(inside(rings + rings + rings), spots)

    def test_many_rings_hold_by_odd_and_even(self):
        for many in range(65):
            self.assertEqual(inside([TRIANGLE] * many), [(2, 1), (3, 2)] if many % 2 else [])
        self.assertEqual(inside([CELLS[spot] for spot in SPOTS]), SPOTS)
        for rings in FINE_RINGS:
            self.assertEqual(inside(rings), plain_inside(rings))

    def test_spots_rise(self):
        draw = Draw(8)
        for _ in range(100):
            spots = inside(draw.rings())
            self.assertEqual(spots, sorted(set(spots)))

    def test_upright_sides_lie_above_no_spot(self):
        # Were an upright side above the spots at its foot, these would hold an odd number of them too few.
        for x in (4, 8, 12):
            rings = [[(0, 0), (x, 0), (x, 12), (0, 12)]]
            self.assertEqual(inside(rings), [spot for spot in SPOTS if spot[0] < x])

    def test_side_reaches_from_its_lesser_x_and_stops_before_its_greater_one(self):
        # A spot at x 2 or 6 or 10 lies below the very end of two slanting sides, and one of them counts.
        for x in (2, 6, 10):
            spots = [(x - 1, 2), (x, 1), (x, 3), (x + 1, 2)]
            self.assertEqual(inside([[(x - 2, 0), (x, 2), (x + 2, 0)]]), [(x, 1)])
            self.assertEqual(inside([[(x - 2, 4), (x, 2), (x + 2, 4)]]), [(x, 3)])
            self.assertEqual(inside([[(x - 2, 0), (x + 2, 0), (x, 2), (x + 2, 4), (x - 2, 4)]]), spots[:3])

    def test_wrong_rings_are_refused(self):
        self.wrong_rings_are_refused(BadRings, inside)


class HoldsTest(RefusalCase):
    def test_rings_worked_out_by_hand_spot_by_spot(self):
        for rings, spots in HELD:
            for spot in SPOTS:
                with self.subTest(rings=rings, spot=spot):
                    self.assertIs(holds(rings, spot), spot in spots)

    def test_drawn_rings_spot_by_spot(self):
        draw = Draw(9)
        for _ in range(150):
            rings = draw.rings()
            spots = plain_inside(rings)
            self.assertEqual([spot for spot in SPOTS if holds(rings, spot)], spots, rings)

    def test_fullest_rings(self):
        for rings in FINE_RINGS:
            self.assertIs(holds(rings, (2, 1)), (2, 1) in plain_inside(rings))

    def test_wrong_rings_are_refused(self):
        self.wrong_rings_are_refused(BadRings, holds, (2, 1))

    def test_wrong_spots_are_refused_also_by_no_rings(self):
        for rings in ([], [TRIANGLE], FINE_RINGS[7]):
            for wrong in WRONG_SPOTS:
                with self.subTest(rings=told(rings), wrong=told(wrong)):
                    self.refused(BadSpot, holds, rings, wrong)

    def test_of_bad_rings_and_a_bad_spot_the_rings_are_refused_first(self):
        for wrong in WRONG_RINGS:
            for spot in (None, (0, 0), (True, 2), [2, 1]):
                with self.subTest(wrong=told(wrong), spot=spot):
                    self.refused(BadRings, holds, wrong, spot)

    def test_each_corner_and_each_other_place_is_no_spot(self):
        for x in range(-2, 16):
            for y in range(-2, 16):
                if (x, y) not in SPOTS:
                    self.refused(BadSpot, holds, [TRIANGLE], (x, y))


class SidesTest(unittest.TestCase):
    def test_no_side_goes_through_a_spot(self):
        # Point 4 leans on this: else it would not be plain which sides lie above.
        for start in CORNERS:
            for end in SIDES_FROM[start]:
                for x, y in SPOTS:
                    aside = (end[0] - start[0]) * (y - start[1]) - (end[1] - start[1]) * (x - start[0])
                    between = min(start[0], end[0]) <= x <= max(start[0], end[0])
                    self.assertFalse(aside == 0 and between and min(start[1], end[1]) <= y <= max(start[1], end[1]))

    def test_drawn_rings_have_sides_of_all_kinds(self):
        draw = Draw(5)
        kinds = set()
        for _ in range(200):
            for ring in draw.rings():
                for (x, y), (far_x, far_y) in sides_of(ring):
                    kinds.add((abs(far_x - x), abs(far_y - y), x % 4, far_x % 4))
        for far in (4, 8, 12):
            self.assertLessEqual({(far, 0, 0, 0), (0, far, 0, 0), (far, far, 0, 0)}, kinds)
        for far in (2, 6, 10):
            self.assertLessEqual({(far, far, 0, 2), (far, far, 2, 0)}, kinds)
        self.assertLessEqual({(4, 4, 2, 2), (8, 8, 2, 2)}, kinds)


if __name__ == "__main__":
    unittest.main()

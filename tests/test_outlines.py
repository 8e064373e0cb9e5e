"""Tests of ringland.outlines: points 5, 6 and 7."""

import unittest
from itertools import combinations

from helper import (
    CELLS, FINE_RINGS, SPOTS, TRIANGLE, WRONG_SPOTS, Draw, RefusalCase,
    plain_edges, plain_inside, plain_outline, sides_of, steps_of_all, told,
)
from ringland.errors import BadRings, BadSpot
from ringland.outlines import outline, plain
from ringland.rings import inside, need

# The eight cells round the corner (4, 4), as one goes round it to the left.
ROUND_A_CORNER = [(6, 5), (5, 6), (3, 6), (2, 5), (2, 3), (3, 2), (5, 2), (6, 3)]

MIDDLE = [(5, 6), (6, 5), (6, 7), (7, 6)]


def without(*spots):
    """All spots but these."""
    return [spot for spot in SPOTS if spot not in spots]


# Spots, and their outlines, worked out by hand.
OUTLINES = [
    # no spots, one, a few, all
    ([], []),
    ([(2, 1)], [[(0, 0), (4, 0), (2, 2)]]),
    ([(3, 2)], [[(2, 2), (4, 0), (4, 4)]]),
    ([(2, 3)], [[(0, 4), (2, 2), (4, 4)]]),
    ([(1, 2)], [[(0, 0), (2, 2), (0, 4)]]),
    ([(11, 10)], [[(10, 10), (12, 8), (12, 12)]]),
    ([(2, 1), (3, 2)], [[(0, 0), (4, 0), (4, 4)]]),
    (MIDDLE, [[(4, 4), (8, 4), (8, 8), (4, 8)]]),
    ([(1, 2), (2, 1), (2, 3), (3, 2), (5, 2)], [[(0, 0), (4, 0), (6, 2), (4, 4), (0, 4)]]),
    ([(1, 2), (2, 1), (2, 3)], [[(0, 0), (4, 0), (2, 2), (4, 4), (0, 4)]]),
    (SPOTS, [[(0, 0), (12, 0), (12, 12), (0, 12)]]),
    # corners at which it goes straight on are left out, also where two cells meet at the middle of a square
    ([(6, 3), (6, 5)], [[(4, 4), (6, 2), (8, 4), (6, 6)]]),
    ([(2, 3), (2, 5), (3, 6), (5, 6)], [[(0, 4), (2, 2), (6, 6), (4, 8)]]),
    # two parts that touch at a corner: two rings
    ([(2, 1), (2, 3)], [[(0, 0), (4, 0), (2, 2)], [(0, 4), (2, 2), (4, 4)]]),
    ([(1, 2), (3, 2)], [[(0, 0), (2, 2), (0, 4)], [(2, 2), (4, 0), (4, 4)]]),
    ([(1, 2), (2, 1), (2, 3), (3, 2)] + MIDDLE,
     [[(0, 0), (4, 0), (4, 4), (0, 4)], [(4, 4), (8, 4), (8, 8), (4, 8)]]),
    # parts whose rings begin at one corner
    ([(1, 6), (2, 3)], [[(0, 4), (2, 2), (4, 4)], [(0, 4), (2, 6), (0, 8)]]),
    ([(6, 3), (5, 6)], [[(4, 4), (6, 2), (8, 4)], [(4, 4), (6, 6), (4, 8)]]),
    # four parts that touch at one corner
    (ROUND_A_CORNER[::2],
     [[(0, 4), (2, 2), (4, 4)], [(2, 6), (4, 4), (4, 8)], [(4, 0), (6, 2), (4, 4)], [(4, 4), (8, 4), (6, 6)]]),
    # holes, and islands in them
    (without(*MIDDLE), [[(0, 0), (12, 0), (12, 12), (0, 12)], [(4, 4), (4, 8), (8, 8), (8, 4)]]),
    (without((6, 5)), [[(0, 0), (12, 0), (12, 12), (0, 12)], [(4, 4), (6, 6), (8, 4)]]),
    (without((3, 6), (5, 6), (6, 5), (7, 6), (6, 7)),
     [[(0, 0), (12, 0), (12, 12), (0, 12)], [(2, 6), (4, 8), (8, 8), (8, 4), (4, 4)]]),
    (without((3, 6), (5, 6), (6, 3), (6, 7), (6, 9), (7, 6), (9, 6)),
     [[(0, 0), (12, 0), (12, 12), (0, 12)], [(2, 6), (6, 10), (10, 6), (6, 2)], [(4, 4), (8, 4), (6, 6)]]),
    # the cells along the edge of the plane, parts that touch at corners, and an island between them
    ([spot for spot in SPOTS if min(spot) == 1 or max(spot) == 11] + MIDDLE, [
        [(0, 0), (4, 0), (0, 4)], [(0, 4), (2, 6), (0, 8)], [(0, 8), (4, 12), (0, 12)],
        [(4, 0), (8, 0), (6, 2)], [(4, 4), (8, 4), (8, 8), (4, 8)], [(4, 12), (6, 10), (8, 12)],
        [(8, 0), (12, 0), (12, 4)], [(8, 12), (12, 8), (12, 12)], [(10, 6), (12, 4), (12, 8)],
    ]),
    # two holes that touch at a corner: one round goes round both
    (without((6, 5), (6, 7)),
     [[(0, 0), (12, 0), (12, 12), (0, 12)], [(4, 4), (6, 6), (4, 8), (8, 8), (6, 6), (8, 4)]]),
    # a hole that touches the rim at a corner: one round goes along both
    (without((3, 2)), [[(0, 0), (4, 0), (2, 2), (4, 4), (4, 0), (12, 0), (12, 12), (0, 12)]]),
    # a hole between two parts, of which one is a single cell
    (without((2, 3), (2, 1)),
     [[(0, 0), (2, 2), (0, 4)], [(0, 4), (4, 4), (2, 2), (4, 0), (12, 0), (12, 12), (0, 12)]]),
    # the same where the round begins: it may go round the hole first, or at the end
    ([(1, 6), (2, 7), (3, 6), (5, 6), (6, 5), (6, 3), (5, 2), (3, 2), (2, 3)],
     [[(0, 4), (2, 6), (4, 4), (0, 4), (4, 0), (8, 4), (4, 8), (0, 8)]]),
    ([spot for spot in SPOTS if spot[1] > 4 and spot != (2, 5)] + [(2, 3), (3, 2), (5, 2), (6, 3)],
     [[(0, 4), (2, 6), (4, 4), (0, 4), (4, 0), (8, 4), (12, 4), (12, 12), (0, 12)]]),
    # (4, 8) is passed twice, and only once is there a turn
    ([spot for spot in SPOTS if spot[0] > 4 and spot != (5, 6)] + [(3, 6), (2, 5), (2, 3), (3, 2), (3, 10)],
     [[(0, 4), (4, 0), (12, 0), (12, 12), (4, 12), (2, 10), (6, 6), (4, 4), (4, 8)]]),
]


class OutlineCase(RefusalCase):
    def is_told_as_promised(self, rings, spots):
        """Hold what is told against points 6 and 7, one sentence after the other."""
        self.assertIs(need(rings), True)
        # All edges of the shape, each one once, and nothing else; so the shape is to the left.
        self.assertEqual(sorted(steps_of_all(rings)), plain_edges(spots))
        for ring in rings:
            self.assertEqual(ring, min(ring[at:] + ring[:at] for at in range(len(ring))))
            self.assertEqual(ring[0], min(ring))
            for before, corner, after in zip(ring[-1:] + ring[:-1], ring, ring[1:] + ring[:1]):
                # It turns at each corner, neither going on straight nor back.
                across, up = corner[0] - before[0], corner[1] - before[1]
                self.assertNotEqual(across * (after[1] - corner[1]), up * (after[0] - corner[0]))
        self.assertEqual(rings, sorted(rings))
        self.assertEqual(rings, plain_outline(spots))


class OutlineTest(OutlineCase):
    def test_outlines_worked_out_by_hand(self):
        for spots, rings in OUTLINES:
            with self.subTest(spots=spots):
                self.assertEqual(outline(spots), rings)

    def test_plain_going_round_gives_what_was_worked_out_by_hand(self):
        for spots, rings in OUTLINES:
            with self.subTest(spots=spots):
                self.assertEqual(plain_outline(spots), rings)

    def test_outlines_of_one_and_of_two_spots(self):
        for many in (1, 2):
            for spots in combinations(SPOTS, many):
                self.is_told_as_promised(outline(list(spots)), spots)

    def test_outlines_of_all_spots_but_one_and_but_two(self):
        self.is_told_as_promised(outline(list(SPOTS)), SPOTS)
        for many in (1, 2):
            for left_out in combinations(SPOTS, many):
                self.is_told_as_promised(outline(without(*left_out)), without(*left_out))

    def test_each_way_to_fill_the_cells_round_a_corner(self):
        for which in range(256):
            spots = [spot for at, spot in enumerate(ROUND_A_CORNER) if which >> at & 1]
            self.is_told_as_promised(outline(spots), spots)
            # The same within a part that goes round them all.
            rest = [spot for spot in SPOTS if spot not in ROUND_A_CORNER]
            self.is_told_as_promised(outline(spots + rest), spots + rest)

    def test_drawn_sets(self):
        draw = Draw(11)
        for at in range(1400):
            spots = draw.spots(1 + at % 7)
            self.is_told_as_promised(outline(spots), spots)

    def test_drawn_sets_hold_a_corner_twice_in_one_ring_also_the_least_one(self):
        draw = Draw(11)
        rings = [ring for at in range(1400) for ring in outline(draw.spots(1 + at % 7))]
        self.assertTrue(any(len(set(ring)) < len(ring) for ring in rings))
        self.assertTrue(any(ring.count(ring[0]) == 2 for ring in rings))

    def test_order_of_spots_and_how_often_they_stand_there_do_not_count(self):
        draw = Draw(12)
        for at in range(300):
            spots = draw.spots(1 + at % 7)
            told_once = outline(spots)
            self.assertEqual(outline(list(reversed(spots))), told_once)
            self.assertEqual(outline(draw.shuffled(spots)), told_once)
            self.assertEqual(outline(spots + spots), told_once)
            self.assertEqual(outline(draw.shuffled(spots + spots[:at % 5] * 3)), told_once)
        self.assertEqual(outline(SPOTS * 50), [[(0, 0), (12, 0), (12, 12), (0, 12)]])

    def test_outline_holds_its_spots_and_no_others(self):
        draw = Draw(13)
        for at in range(300):
            spots = draw.spots(1 + at % 7)
            self.assertEqual(inside(outline(spots)), spots)

    def test_rings_are_lists_of_pairs_of_numbers(self):
        rings = outline(without(*MIDDLE))
        self.assertIs(type(rings), list)
        for ring in rings:
            self.assertIs(type(ring), list)
            for corner in ring:
                self.assertIs(type(corner), tuple)
                self.assertEqual([type(number) for number in corner], [int, int])

    def test_part_is_to_the_left_of_the_rim_and_of_the_hole(self):
        rim, hole = outline(without(*MIDDLE))
        self.assertEqual([self.twice_the_area(rim), self.twice_the_area(hole)], [2 * 144, -2 * 16])

    def twice_the_area(self, ring):
        """Above 0 where the ring goes round to the left."""
        return sum(x * far_y - far_x * y for (x, y), (far_x, far_y) in sides_of(ring))

    def test_wrong_spots_are_refused_wherever_they_stand(self):
        for wrong in WRONG_SPOTS:
            for spots in ([wrong], [wrong, (2, 1)], [(2, 1), wrong], SPOTS + [wrong], SPOTS[:9] + [wrong] + SPOTS[9:]):
                with self.subTest(wrong=told(wrong)):
                    self.refused(BadSpot, outline, spots)

    def test_each_place_that_is_no_spot_is_refused(self):
        for x in range(-2, 16):
            for y in range(-2, 16):
                if (x, y) not in SPOTS:
                    self.refused(BadSpot, outline, [(2, 1), (x, y)])

    def test_rings_in_place_of_spots_are_refused(self):
        self.refused(BadSpot, outline, [TRIANGLE])
        self.refused(BadSpot, outline, TRIANGLE)
        self.refused(BadSpot, outline, [SPOTS])


class PlainTest(OutlineCase):
    def test_outlines_worked_out_by_hand(self):
        self.assertEqual(plain([]), [])
        self.assertEqual(plain([TRIANGLE]), [TRIANGLE])
        self.assertEqual(plain([[(4, 4), (4, 0), (0, 0)]]), [TRIANGLE])
        self.assertEqual(plain([TRIANGLE, TRIANGLE]), [])
        self.assertEqual(plain([[(0, 0), (4, 4), (4, 0), (0, 4)]]),
                         [[(0, 0), (2, 2), (0, 4)], [(2, 2), (4, 0), (4, 4)]])
        self.assertEqual(plain([[(0, 0), (4, 0), (8, 0), (8, 8), (4, 4)]]), [[(0, 0), (8, 0), (8, 8)]])
        # two squares side by side, then one on another
        self.assertEqual(plain([[(0, 0), (4, 0), (4, 4), (0, 4)], [(4, 0), (8, 0), (8, 4), (4, 4)]]),
                         [[(0, 0), (8, 0), (8, 4), (0, 4)]])
        self.assertEqual(plain([[(0, 0), (8, 0), (8, 8), (0, 8)], [(4, 4), (12, 4), (12, 12), (4, 12)]]), [
            [(0, 0), (8, 0), (8, 4), (4, 4), (4, 8), (0, 8)],
            [(4, 8), (8, 8), (8, 4), (12, 4), (12, 12), (4, 12)],
        ])

    def test_outline_is_told_as_it_is(self):
        for spots, rings in OUTLINES:
            with self.subTest(spots=spots):
                self.assertEqual(plain(rings), rings)

    def test_drawn_outlines_are_told_as_they_are(self):
        draw = Draw(14)
        for at in range(300):
            rings = outline(draw.spots(1 + at % 7))
            self.assertEqual(plain(rings), rings)

    def test_drawn_rings(self):
        draw = Draw(15)
        for _ in range(400):
            rings = draw.rings()
            self.is_told_as_promised(plain(rings), plain_inside(rings))

    def test_same_shape_told_by_other_rings_gives_the_same_outline(self):
        draw = Draw(16)
        for at in range(150):
            spots = draw.spots(1 + at % 7)
            rings = outline(spots)
            for other in self.told_otherwise(rings, spots, draw):
                self.assertEqual(inside(other), spots)
                self.assertEqual(plain(other), rings)

    def told_otherwise(self, rings, spots, draw):
        """Other lists of rings that tell the same shape."""
        ring = draw.ring()
        return [
            [list(reversed(ring)) for ring in rings],
            [ring[1:] + ring[:1] for ring in rings],
            draw.shuffled(rings),
            # all corners between the edges, not just those at which a ring turns
            [[start for start, end in steps_of_all([ring])] for ring in rings],
            # the cells one by one, and the other way round
            [CELLS[spot] for spot in spots],
            [list(reversed(CELLS[spot])) for spot in spots],
            # what is left out of the whole plane
            [[(0, 0), (12, 0), (12, 12), (0, 12)]] + [CELLS[spot] for spot in without(*spots)],
            # another ring twice, and one that goes to and fro
            [ring] + rings + [list(reversed(ring))],
            rings + [[(0, 0), (4, 0), (8, 0), (4, 0)]],
        ]

    def test_two_shapes_that_differ_have_outlines_that_differ(self):
        draw = Draw(17)
        for at in range(200):
            spots = draw.spots(1 + at % 7)
            spot = draw.one_of(SPOTS)
            other = [held for held in spots if held != spot] if spot in spots else spots + [spot]
            self.assertNotEqual(outline(spots), outline(other))

    def test_fine_rings(self):
        for rings in FINE_RINGS:
            self.assertEqual(plain(rings), plain_outline(plain_inside(rings)))

    def test_wrong_rings_are_refused(self):
        self.wrong_rings_are_refused(BadRings, plain)

    def test_spots_in_place_of_rings_are_refused(self):
        self.refused(BadRings, plain, SPOTS)
        self.refused(BadRings, plain, [SPOTS])


if __name__ == "__main__":
    unittest.main()

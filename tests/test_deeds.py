"""Tests of ringland.deeds: points 8, 9 and 10."""

import unittest

from helper import (
    CELLS, FINE_RINGS, SPOTS, TRIANGLE, WRONG_RINGS, Draw, RefusalCase,
    plain_inside, plain_outline, plain_parts, sides_of, steps_of, steps_of_all, told,
)
from ringland.deeds import apart, area, joined, pieces, shared, taken
from ringland.errors import BadRings
from ringland.outlines import outline, plain
from ringland.rings import holds, inside, need

# Each deed, and whether it holds a spot that the first one holds, and the second one holds, or not.
DEEDS = [
    (joined, lambda first, second: first or second),
    (shared, lambda first, second: first and second),
    (taken, lambda first, second: first and not second),
    (apart, lambda first, second: first != second),
]

PLANE = [(0, 0), (12, 0), (12, 12), (0, 12)]
LOW = [(0, 0), (8, 0), (8, 8), (0, 8)]
HIGH = [(4, 4), (12, 4), (12, 12), (4, 12)]
MIDDLE = [(4, 4), (8, 4), (8, 8), (4, 8)]
FULL = FINE_RINGS[-1]

# Two lists of rings, then what is joined, shared, taken and apart, worked out by hand.
DONE = [
    # two squares that cross
    ([LOW], [HIGH],
     [[(0, 0), (8, 0), (8, 4), (12, 4), (12, 12), (4, 12), (4, 8), (0, 8)]],
     [MIDDLE],
     [[(0, 0), (8, 0), (8, 4), (4, 4), (4, 8), (0, 8)]],
     [[(0, 0), (8, 0), (8, 4), (4, 4), (4, 8), (0, 8)], [(4, 8), (8, 8), (8, 4), (12, 4), (12, 12), (4, 12)]]),
    # one within the other, and the other way
    ([PLANE], [MIDDLE], [PLANE], [MIDDLE],
     [PLANE, [(4, 4), (4, 8), (8, 8), (8, 4)]], [PLANE, [(4, 4), (4, 8), (8, 8), (8, 4)]]),
    ([MIDDLE], [PLANE], [PLANE], [MIDDLE], [], [PLANE, [(4, 4), (4, 8), (8, 8), (8, 4)]]),
    # the same, the other way round and begun elsewhere
    ([LOW], [[(8, 8), (8, 0), (0, 0), (0, 8)]], [LOW], [LOW], [], []),
    # nothing
    ([], [], [], [], [], []),
    ([], [LOW], [LOW], [], [], [LOW]),
    ([LOW], [], [LOW], [], [LOW], [LOW]),
    ([LOW, LOW], [MIDDLE], [MIDDLE], [], [], [MIDDLE]),
    # side by side
    ([TRIANGLE], [[(0, 0), (4, 4), (0, 4)]],
     [[(0, 0), (4, 0), (4, 4), (0, 4)]], [], [TRIANGLE], [[(0, 0), (4, 0), (4, 4), (0, 4)]]),
    # two that touch at a corner
    ([TRIANGLE], [[(4, 4), (8, 4), (8, 8)]],
     [TRIANGLE, [(4, 4), (8, 4), (8, 8)]], [], [TRIANGLE], [TRIANGLE, [(4, 4), (8, 4), (8, 8)]]),
    # slanting sides that cross at the middle of a square, where neither has a corner
    ([TRIANGLE], [[(0, 0), (4, 0), (0, 4)]],
     [[(0, 0), (4, 0), (4, 4), (2, 2), (0, 4)]], [[(0, 0), (4, 0), (2, 2)]], [[(2, 2), (4, 0), (4, 4)]],
     [[(0, 0), (2, 2), (0, 4)], [(2, 2), (4, 0), (4, 4)]]),
    # two that have a corner of the one in the midst of a side of the other
    ([PLANE], [[(4, 0), (8, 0), (6, 2)]], [PLANE], [[(4, 0), (8, 0), (6, 2)]],
     [[(0, 0), (4, 0), (6, 2), (8, 0), (12, 0), (12, 12), (0, 12)]],
     [[(0, 0), (4, 0), (6, 2), (8, 0), (12, 0), (12, 12), (0, 12)]]),
]

# Spots, and the pieces of their shape, worked out by hand.
PIECES = [
    ([], []),
    ([(2, 1)], [[[(0, 0), (4, 0), (2, 2)]]]),
    (SPOTS, [[PLANE]]),
    # cells that touch only at a corner, at the middle of a square and at a corner of four squares
    ([(2, 1), (2, 3)], [[[(0, 0), (4, 0), (2, 2)]], [[(0, 4), (2, 2), (4, 4)]]]),
    ([(3, 2), (5, 6)], [[[(2, 2), (4, 0), (4, 4)]], [[(4, 4), (6, 6), (4, 8)]]]),
    # cells that hang together by another one
    ([(2, 1), (2, 3), (3, 2)], [[[(0, 0), (4, 0), (4, 4), (0, 4), (2, 2)]]]),
    # by their least spots the higher one comes first, by their outlines it would come last
    ([(2, 1), (1, 6)], [[[(0, 4), (2, 6), (0, 8)]], [[(0, 0), (4, 0), (2, 2)]]]),
    ([(2, 1), (1, 10), (2, 3), (1, 6)], [
        [[(0, 4), (2, 6), (0, 8)]], [[(0, 8), (2, 10), (0, 12)]],
        [[(0, 0), (4, 0), (2, 2)]], [[(0, 4), (2, 2), (4, 4)]],
    ]),
    # a piece with a hole, and an island in it that touches its rim at two corners
    ([spot for spot in SPOTS if spot not in [(3, 6), (5, 6), (6, 3), (6, 7), (6, 9), (7, 6), (9, 6)]],
     [[PLANE, [(2, 6), (6, 10), (10, 6), (6, 2)]], [[(4, 4), (8, 4), (6, 6)]]]),
]


def drawn_pairs(start, many):
    """Pairs of lists of rings: some go to and fro, some are outlines, some of both, and some tell one shape."""
    draw = Draw(start)
    for at in range(many):
        drawn = [draw.rings(), plain_outline(draw.spots(1 + at % 7)), draw.rings(), [CELLS[s] for s in draw.spots(4)]]
        one = draw.one_of(drawn)
        yield one, one if at % 20 == 0 else draw.one_of(drawn)


class DeedsTest(RefusalCase):
    def test_deeds_worked_out_by_hand(self):
        for one, other, *results in DONE:
            for (deed, _), result in zip(DEEDS, results):
                with self.subTest(deed=deed.__name__, one=one, other=other):
                    self.assertEqual(deed(one, other), result)

    def test_deeds_hold_what_point_8_tells_spot_by_spot(self):
        for one, other in drawn_pairs(21, 60):
            for deed, wanted in DEEDS:
                result = deed(one, other)
                for spot in SPOTS:
                    self.assertIs(holds(result, spot), wanted(holds(one, spot), holds(other, spot)))

    def test_deeds_are_told_by_outlines(self):
        for one, other in drawn_pairs(22, 400):
            first, second = plain_inside(one), plain_inside(other)
            for deed, wanted in DEEDS:
                spots = [spot for spot in SPOTS if wanted(spot in first, spot in second)]
                result = deed(one, other)
                self.assertEqual(result, plain_outline(spots), (deed.__name__, one, other))
                self.assertEqual(result, plain(result))
                self.assertIs(need(result), True)

    def test_other_rings_of_the_same_shapes_give_the_same(self):
        for one, other in drawn_pairs(23, 100):
            for deed, _ in DEEDS:
                self.assertEqual(deed(plain(one), plain(other)), deed(one, other))

    def test_deeds_go_together(self):
        for one, other in drawn_pairs(24, 100):
            self.assertEqual(joined(one, other), joined(other, one))
            self.assertEqual(shared(one, other), shared(other, one))
            self.assertEqual(apart(one, other), apart(other, one))
            self.assertEqual(apart(one, other), taken(joined(one, other), shared(one, other)))
            self.assertEqual(apart(one, other), joined(taken(one, other), taken(other, one)))
            self.assertEqual(plain(one), joined(taken(one, other), shared(one, other)))
            self.assertEqual(shared(taken(one, other), other), [])

    def test_shape_and_itself_and_nothing(self):
        for one, _ in drawn_pairs(25, 60):
            self.assertEqual([deed(one, one) for deed, _ in DEEDS], [plain(one), plain(one), [], []])
            self.assertEqual([deed(one, []) for deed, _ in DEEDS], [plain(one), [], plain(one), plain(one)])
            self.assertEqual([deed([], one) for deed, _ in DEEDS], [plain(one), [], [], plain(one)])

    def test_results_are_lists_of_lists_of_pairs_of_numbers(self):
        for deed, _ in DEEDS:
            rings = deed([LOW], [TRIANGLE])
            self.assertIs(type(rings), list)
            for ring in rings:
                self.assertIs(type(ring), list)
                for corner in ring:
                    self.assertIs(type(corner), tuple)
                    self.assertEqual([type(number) for number in corner], [int, int])

    def test_fine_rings_on_either_side_and_on_both(self):
        pairs = [(fine, [LOW]) for fine in FINE_RINGS] + [([LOW], fine) for fine in FINE_RINGS]
        pairs.extend([([TRIANGLE] * 64, FINE_RINGS[8]), (FINE_RINGS[8], FULL)])
        for one, other in pairs:
            first, second = plain_inside(one), plain_inside(other)
            for deed, wanted in DEEDS:
                spots = [spot for spot in SPOTS if wanted(spot in first, spot in second)]
                self.assertEqual(deed(one, other), plain_outline(spots))

    def test_wrong_rings_are_refused_from_either_side(self):
        for wrong in WRONG_RINGS:
            for deed, _ in DEEDS:
                with self.subTest(deed=deed.__name__, wrong=told(wrong)):
                    self.refused(BadRings, deed, wrong, [TRIANGLE])
                    self.refused(BadRings, deed, [TRIANGLE], wrong)

    def test_wrong_rings_are_refused_beside_no_rings_and_beside_wrong_ones(self):
        for wrong in WRONG_RINGS[::5]:
            for deed, _ in DEEDS:
                self.refused(BadRings, deed, wrong, [])
                self.refused(BadRings, deed, [], wrong)
                self.refused(BadRings, deed, wrong, wrong)


class AlongTest(unittest.TestCase):
    """Point 9: what comes lies along what was there."""

    def along(self, corner, rings):
        """Tell whether the corner lies on a side of the rings."""
        return any(corner in step for step in steps_of_all(rings))

    def test_sides_lie_along_sides_of_the_two_piece_by_piece(self):
        for one, other in drawn_pairs(31, 200):
            for first, second in ((one, other), (plain(one), plain(other))):
                there = {frozenset(step) for step in steps_of_all(first) + steps_of_all(second)}
                for deed, _ in DEEDS:
                    for side in [side for ring in deed(one, other) for side in sides_of(ring)]:
                        for step in steps_of(side):
                            self.assertIn(frozenset(step), there)

    def test_corners_are_corners_of_one_outline_or_lie_on_sides_of_both(self):
        crossings = 0
        for one, other in drawn_pairs(32, 200):
            first, second = plain(one), plain(other)
            corners = {corner for ring in first + second for corner in ring}
            for deed, _ in DEEDS:
                for corner in [corner for ring in deed(one, other) for corner in ring]:
                    if corner not in corners:
                        crossings += 1
                        self.assertTrue(self.along(corner, first) and self.along(corner, second))
        self.assertGreater(crossings, 0)


class AreaTest(RefusalCase):
    def test_areas_worked_out_by_hand(self):
        for rings, many in [
            ([], 0), ([TRIANGLE], 2), ([TRIANGLE, TRIANGLE], 0), ([CELLS[(1, 2)]], 1), ([LOW], 16), ([PLANE], 36),
            ([PLANE, MIDDLE], 32), ([LOW, HIGH], 24), ([[(6, 2), (10, 6), (6, 10), (2, 6)]], 8),
            ([[(0, 0), (4, 0), (0, 0), (4, 0)]], 0), ([[(0, 0), (12, 12), (0, 12)]], 18), ([TRIANGLE * 3], 2),
        ]:
            with self.subTest(rings=rings):
                self.assertEqual(area(rings), many)
                self.assertIs(type(area(rings)), int)

    def test_drawn_rings(self):
        draw = Draw(41)
        for _ in range(200):
            rings = draw.rings()
            self.assertEqual(area(rings), len(plain_inside(rings)))

    def test_areas_of_deeds_go_together(self):
        for one, other in drawn_pairs(42, 100):
            self.assertEqual(area(joined(one, other)) + area(shared(one, other)), area(one) + area(other))
            self.assertEqual(area(taken(one, other)) + area(shared(one, other)), area(one))

    def test_fine_rings(self):
        for rings in FINE_RINGS:
            self.assertEqual(area(rings), len(plain_inside(rings)))

    def test_wrong_rings_are_refused(self):
        self.wrong_rings_are_refused(BadRings, area)


class PiecesTest(RefusalCase):
    def test_pieces_worked_out_by_hand(self):
        for spots, parts in PIECES:
            with self.subTest(spots=spots):
                self.assertEqual(pieces(outline(spots)), parts)
                self.assertEqual(pieces([CELLS[spot] for spot in spots]), parts)

    def test_pieces_of_two_cells(self):
        for spot in SPOTS:
            for other in SPOTS:
                common = len(set(CELLS[spot]) & set(CELLS[other]))
                many = 1 if common > 1 else 2
                self.assertEqual(len(pieces(outline([spot, other]))), many, (spot, other))

    def test_drawn_shapes(self):
        draw = Draw(43)
        for at in range(700):
            spots = draw.spots(1 + at % 7)
            parts = plain_parts(spots)
            self.assertEqual(pieces(outline(spots)), [plain_outline(part) for part in parts])

    def test_drawn_rings(self):
        draw = Draw(44)
        for _ in range(300):
            rings = draw.rings()
            self.assertEqual(pieces(rings), [plain_outline(part) for part in plain_parts(plain_inside(rings))])

    def test_pieces_make_up_the_shape_in_the_order_of_their_least_spots(self):
        draw = Draw(45)
        for _ in range(200):
            rings = draw.rings()
            parts = [inside(part) for part in pieces(rings)]
            self.assertEqual(sorted(spot for part in parts for spot in part), inside(rings))
            least = [min(part) for part in parts]
            self.assertEqual(least, sorted(least))

    def test_piece_has_itself_for_its_only_piece(self):
        draw = Draw(46)
        for at in range(100):
            for part in pieces(outline(draw.spots(1 + at % 7))):
                self.assertEqual(pieces(part), [part])

    def test_most_pieces(self):
        # Two cells that face one another in each square: none of them has an edge in common with another one.
        spots = [(x, y) for x, y in SPOTS if x % 4 == 2 and (x // 4 + y // 4) % 2 == 0]
        spots.extend((x, y) for x, y in SPOTS if y % 4 == 2 and (x // 4 + y // 4) % 2 == 1)
        parts = pieces(outline(spots))
        self.assertEqual(parts, [plain_outline([spot]) for spot in sorted(spots)])
        self.assertEqual(len(parts), 18)

    def test_fine_rings(self):
        for rings in FINE_RINGS:
            self.assertEqual(pieces(rings), [plain_outline(part) for part in plain_parts(plain_inside(rings))])

    def test_wrong_rings_are_refused(self):
        self.wrong_rings_are_refused(BadRings, pieces)


if __name__ == "__main__":
    unittest.main()

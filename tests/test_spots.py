"""Tests of ringland.spots: points 1, 4 and 5, as far as they speak of places, spots and cells."""

import unittest

from helper import NO_PLACES, WRONG_SPOTS, sides_of, told
from ringland import spots
from ringland.errors import BadRings, BadSpot, ShapeError
from ringland.spots import MOST, all_spots, cell_of, is_place

ODD = (1, 3, 5, 7, 9, 11)
LEAVES_TWO = (2, 6, 10)

# The plane is 3 by 3 squares of 4 by 4, and each of these has four cells.
MANY = 36

# Cells worked out by hand: the four of one square, and those at the edges of the plane.
CELLS = {
    (5, 6): [(4, 8), (4, 4), (6, 6)],
    (6, 5): [(4, 4), (8, 4), (6, 6)],
    (7, 6): [(8, 4), (8, 8), (6, 6)],
    (6, 7): [(8, 8), (4, 8), (6, 6)],
    (1, 2): [(0, 4), (0, 0), (2, 2)],
    (2, 1): [(0, 0), (4, 0), (2, 2)],
    (1, 10): [(0, 12), (0, 8), (2, 10)],
    (2, 11): [(4, 12), (0, 12), (2, 10)],
    (10, 1): [(8, 0), (12, 0), (10, 2)],
    (11, 2): [(12, 0), (12, 4), (10, 2)],
    (10, 11): [(12, 12), (8, 12), (10, 10)],
    (11, 10): [(12, 8), (12, 12), (10, 10)],
}


def turn(start, end, place):
    """Above 0 where place lies to the left of the way from start to end."""
    return (end[0] - start[0]) * (place[1] - start[1]) - (end[1] - start[1]) * (place[0] - start[0])


class PlaceTest(unittest.TestCase):
    def test_places_go_from_0_to_12(self):
        for x in range(-6, 20):
            for y in range(-6, 20):
                with self.subTest(place=(x, y)):
                    self.assertIs(is_place((x, y)), x in range(13) and y in range(13))

    def test_whatever_is_no_pair_of_whole_numbers_is_no_place(self):
        for wrong in NO_PLACES:
            with self.subTest(wrong=told(wrong)):
                self.assertIs(is_place(wrong), False)


class SpotsTest(unittest.TestCase):
    def test_plane_goes_to_twelve(self):
        self.assertEqual(MOST, 12)
        self.assertIs(type(MOST), int)

    def test_all_spots_are_those_of_point_4_place_by_place(self):
        listed = all_spots()
        for x in range(-4, 17):
            for y in range(-4, 17):
                spot = (x in ODD and y in LEAVES_TWO) or (y in ODD and x in LEAVES_TWO)
                with self.subTest(place=(x, y)):
                    self.assertEqual(listed.count((x, y)), 1 if spot else 0)
        self.assertEqual(len(listed), MANY)

    def test_all_spots_rise_by_x_then_y(self):
        listed = all_spots()
        self.assertEqual(listed, sorted(listed))
        self.assertEqual(listed[:10], [
            (1, 2), (1, 6), (1, 10), (2, 1), (2, 3), (2, 5), (2, 7), (2, 9), (2, 11), (3, 2),
        ])
        self.assertEqual(listed[-4:], [(10, 11), (11, 2), (11, 6), (11, 10)])

    def test_spots_are_told_as_a_list_of_pairs_of_numbers(self):
        listed = all_spots()
        self.assertIs(type(listed), list)
        for spot in listed:
            self.assertIs(type(spot), tuple)
            self.assertEqual([type(number) for number in spot], [int, int])

    def test_changing_told_spots_changes_nothing_told_later(self):
        before = list(all_spots())
        first = all_spots()
        second = all_spots()
        first.clear()
        self.assertEqual(second, before)
        second.reverse()
        second[0] = None
        second.append((0, 0))
        self.assertEqual(all_spots(), before)
        self.assertEqual(len(cell_of((1, 2))), 3)

    def test_functions_are_defined_in_their_file(self):
        self.assertEqual(all_spots.__module__, spots.__name__)
        self.assertEqual(cell_of.__module__, spots.__name__)


class CellTest(unittest.TestCase):
    def test_cells_worked_out_by_hand(self):
        for spot, corners in CELLS.items():
            with self.subTest(spot=spot):
                self.assertEqual(cell_of(spot), corners)

    def test_cell_is_told_as_a_list_of_places(self):
        for spot in all_spots():
            corners = cell_of(spot)
            self.assertIs(type(corners), list)
            self.assertEqual(len(corners), 3)
            for corner in corners:
                self.assertIs(type(corner), tuple)
                self.assertEqual([type(number) for number in corner], [int, int])
                self.assertTrue(0 <= min(corner) and max(corner) <= 12)

    def test_two_corners_by_four_and_the_one_that_leaves_two_last(self):
        for spot in all_spots():
            with self.subTest(spot=spot):
                left_over = [(x % 4, y % 4) for x, y in cell_of(spot)]
                self.assertEqual(left_over, [(0, 0), (0, 0), (2, 2)])

    def test_spot_lies_to_the_left_of_each_side_of_its_cell(self):
        for spot in all_spots():
            for start, end in sides_of(cell_of(spot)):
                with self.subTest(spot=spot, start=start, end=end):
                    self.assertGreater(turn(start, end, spot), 0)

    def test_cell_is_a_quarter_of_the_square_round_the_spot(self):
        for spot in all_spots():
            with self.subTest(spot=spot):
                corners = cell_of(spot)
                # Twice the area of a triangle; a quarter of 4 by 4 is 4.
                self.assertEqual(turn(*corners), 8)
                for at in (0, 1):
                    low = spot[at] // 4 * 4
                    for corner in corners:
                        self.assertTrue(low <= corner[at] <= low + 4)

    def test_each_cell_holds_one_spot_alone(self):
        for spot in all_spots():
            sides = sides_of(cell_of(spot))
            held = [other for other in all_spots()
                    if all(turn(start, end, other) >= 0 for start, end in sides)]
            self.assertEqual(held, [spot])

    def test_changing_a_told_cell_changes_nothing_told_later(self):
        for spot in all_spots():
            before = list(cell_of(spot))
            first = cell_of(spot)
            second = cell_of(spot)
            first.clear()
            self.assertEqual(second, before)
            second[0] = (0, 0)
            second.reverse()
            self.assertEqual(cell_of(spot), before)
        self.assertEqual(len(all_spots()), MANY)


class RefusalTest(unittest.TestCase):
    def refused(self, wrong):
        for kind in (BadSpot, ShapeError, ValueError):
            with self.subTest(wrong=told(wrong), kind=kind), self.assertRaises(kind) as caught:
                cell_of(wrong)
        self.assertIs(type(caught.exception), BadSpot)
        self.assertNotIsInstance(caught.exception, BadRings)

    def test_each_place_that_is_no_spot_is_refused(self):
        listed = all_spots()
        places = [(x, y) for x in range(13) for y in range(13)]
        others = [place for place in places if place not in listed]
        self.assertEqual(len(others), 13 * 13 - MANY)
        for place in others:
            self.refused(place)

    def test_edges_of_the_plane_have_no_spots(self):
        for number in range(13):
            for place in ((0, number), (number, 0), (12, number), (number, 12)):
                self.refused(place)

    def test_each_place_beyond_the_plane_is_refused(self):
        for x in range(-6, 20):
            for y in range(-6, 20):
                if not (0 <= x <= 12 and 0 <= y <= 12):
                    self.refused((x, y))

    def test_whatever_is_no_spot_is_refused(self):
        for wrong in WRONG_SPOTS:
            self.refused(wrong)

    def test_what_is_deep_or_holds_itself_is_refused(self):
        deep = []
        for _ in range(100000):
            deep = [deep]
        self.refused_unseen((deep, 2))
        self.refused_unseen(deep)
        knot = []
        knot.append(knot)
        self.refused_unseen(knot)
        self.refused_unseen((1, knot))

    def refused_unseen(self, wrong):
        """Like refused, without showing what was wrong, where it cannot be shown."""
        with self.assertRaises(BadSpot):
            cell_of(wrong)

    def test_what_is_refused_is_not_changed(self):
        wrong = [1, 2]
        self.refused(wrong)
        self.assertEqual(wrong, [1, 2])

    def test_refusal_does_not_spoil_what_comes_later(self):
        self.refused((0, 0))
        self.assertEqual(cell_of((1, 2)), CELLS[(1, 2)])


if __name__ == "__main__":
    unittest.main()

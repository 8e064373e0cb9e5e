"""The places of the plane, the spots among them, and the cell of each spot.

x runs to the right and y upward.
"""

from ringland.errors import BadSpot

MOST = 12


def is_number(thing):
    """Tell whether thing is a whole number that a place may have."""
    # Python takes True and False for integers; on the plane they are no numbers.
    if not isinstance(thing, int) or isinstance(thing, bool):
        return False
    return 0 <= thing <= MOST


def is_place(thing):
    """Tell whether thing is a place of the plane."""
    if not isinstance(thing, tuple) or len(thing) != 2:
        return False
    x, y = thing
    return is_number(x) and is_number(y)


def is_spot(thing):
    """Tell whether thing is a spot."""
    if not is_place(thing):
        return False
    x, y = thing
    return (x % 2 == 1 and y % 4 == 2) or (x % 4 == 2 and y % 2 == 1)


def need_spot(thing):
    """Refuse with BadSpot what is no spot."""
    if not is_spot(thing):
        # The message does not show what came: it may be anything, and showing it may fail.
        raise BadSpot("a spot is a pair of numbers from 0 to 12, one odd, the other one leaving 2 by 4")


def all_spots():
    """List all spots, rising by x, then y."""
    return [(x, y) for x in range(MOST + 1) for y in range(MOST + 1) if is_spot((x, y))]


def middle(number):
    """Give the middle of the stretch of 4 round a number of a spot."""
    return number // 4 * 4 + 2


def cell_of(spot):
    """List the corners of the spot's cell, with the cell to the left, the middle of its square last."""
    need_spot(spot)
    x, y = spot
    middle_x = middle(x)
    middle_y = middle(y)
    # The spot is one step from the middle; two such steps lead to the edge of the square.
    out_x = 2 * (x - middle_x)
    out_y = 2 * (y - middle_y)
    # Seen from the middle, the corner to the right comes first: so the cell lies to the left.
    right = (middle_x + out_x + out_y, middle_y + out_y - out_x)
    left = (middle_x + out_x - out_y, middle_y + out_y + out_x)
    return [right, left, (middle_x, middle_y)]

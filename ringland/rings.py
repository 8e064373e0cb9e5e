"""Rings: what is a list of rings, and which spots rings hold."""

from ringland.errors import BadRings
from ringland.spots import all_spots, is_place, need_spot

FEWEST_CORNERS = 3
MOST_CORNERS = 200
MOST_RINGS = 64


def is_corner(thing):
    """Tell whether thing is a corner."""
    if not is_place(thing):
        return False
    x, y = thing
    return (x % 4 == 0 and y % 4 == 0) or (x % 4 == 2 and y % 4 == 2)


def is_side(start, end):
    """Tell whether a side goes from the one corner to the other."""
    across = abs(end[0] - start[0])
    up = abs(end[1] - start[1])
    if across == up:
        # Slanting, unless both are 0: then the two are one corner, and no side goes.
        return across > 0
    # Two corners that share a number are of one kind, so a number of one of them tells the kind.
    return (across == 0 or up == 0) and start[0] % 4 == 0


def sides_of(ring):
    """List the sides of a ring, each as a pair of corners."""
    return list(zip(ring, ring[1:] + ring[:1]))


def is_ring(thing):
    """Tell whether thing is a ring."""
    if not isinstance(thing, list):
        return False
    if not FEWEST_CORNERS <= len(thing) <= MOST_CORNERS:
        return False
    # Sides can be asked for only where all ends are corners.
    if not all(is_corner(corner) for corner in thing):
        return False
    return all(is_side(start, end) for start, end in sides_of(thing))


def are_rings(thing):
    """Tell whether thing is a list of rings."""
    if not isinstance(thing, list) or len(thing) > MOST_RINGS:
        return False
    return all(is_ring(ring) for ring in thing)


def need(rings):
    """Tell True; refuse with BadRings what is no list of rings."""
    if not are_rings(rings):
        # As with spots, the message does not show what came.
        raise BadRings("rings are a list of 0 to 64 lists of 3 to 200 corners, from each of which a side goes on")
    return True


def lies_above(side, spot):
    """Tell whether the side lies straight above the spot."""
    left, right = sorted(side)
    # An upright side is left here: no x is no less than its left end's and less than its right end's.
    if not left[0] <= spot[0] < right[0]:
        return False
    slope = (right[1] - left[1]) // (right[0] - left[0])
    return left[1] + slope * (spot[0] - left[0]) > spot[1]


def is_held(spot, sides):
    """Tell whether the rings that have these sides hold the spot."""
    above = [side for side in sides if lies_above(side, spot)]
    return len(above) % 2 == 1


def sides_of_all(rings):
    """List the sides of all rings; refuse with BadRings what is no list of rings."""
    need(rings)
    return [side for ring in rings for side in sides_of(ring)]


def holds(rings, spot):
    """Tell whether the rings hold the spot; refuse with BadRings, then with BadSpot."""
    sides = sides_of_all(rings)
    need_spot(spot)
    return is_held(spot, sides)


def inside(rings):
    """List all spots that the rings hold, rising; refuse with BadRings what is no list of rings."""
    sides = sides_of_all(rings)
    return [spot for spot in all_spots() if is_held(spot, sides)]

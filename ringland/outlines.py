"""Outlines: the one list of rings by which a shape is told."""

from ringland.rings import inside
from ringland.spots import cell_of

# How far the edges of cells go to the right and up; each way turns left by an eighth from the one before it.
WAYS = ((4, 0), (2, 2), (0, 4), (-2, 2), (-4, 0), (-2, -2), (0, -4), (2, -2))


def cell_edges(spot):
    """List the three edges of the spot's cell, with the cell to the left; refuse with BadSpot what is no spot."""
    right, left, mid = cell_of(spot)
    return [(right, left), (left, mid), (mid, right)]


def shape_edges(spots):
    """List the edges of the shape of these spots."""
    # A dict, not a list, since a spot that is told twice has the edges of its cell but once.
    edges = {}
    for spot in spots:
        for edge in cell_edges(spot):
            edges[edge] = True
    return [(start, end) for start, end in edges if (end, start) not in edges]


def way_of(edge):
    """Tell which of the eight ways the edge goes."""
    start, end = edge
    return WAYS.index((end[0] - start[0], end[1] - start[1]))


def left_turn(edge, later):
    """Tell by how much one turns to the left from edge to later: more, the more to the left."""
    # Turning by four eighths would be going back, and an edge that goes back is none of the shape's.
    return (way_of(later) - way_of(edge) + 4) % 8


def later_edges(edges):
    """Map each edge of a shape to the one that comes after it in its round."""
    beginning = {}
    for edge in edges:
        beginning.setdefault(edge[0], []).append(edge)
    later = {}
    for edge in edges:
        turns = [(left_turn(edge, other), other) for other in beginning[edge[1]]]
        later[edge] = max(turns)[1]
    return later


def rounds_of(edges):
    """List the rounds that the edges of a shape make, each as a list of edges."""
    later = later_edges(edges)
    found = []
    for first in edges:
        steps = []
        edge = first
        # An edge that has been gone along is no longer there: so each round is gone once.
        while edge in later:
            steps.append(edge)
            edge = later.pop(edge)
        if steps:
            found.append(steps)
    return found


def turning_corners(steps):
    """List the corners at which a round of edges turns."""
    ways = [way_of(edge) for edge in steps]
    # Before the first edge comes the last one, which stands at -1.
    return [edge[0] for at, edge in enumerate(steps) if ways[at] != ways[at - 1]]


def from_least(corners):
    """Give the ring of these corners that is the least list: it begins with the least corner."""
    return min([corners[at:] + corners[:at] for at in range(len(corners))])


def outline(spots):
    """Tell the outline of a list of spots; refuse with BadSpot where something in it is no spot."""
    return sorted([from_least(turning_corners(steps)) for steps in rounds_of(shape_edges(spots))])


def plain(rings):
    """Tell the outline of what the rings hold; refuse with BadRings what is no list of rings."""
    return outline(inside(rings))

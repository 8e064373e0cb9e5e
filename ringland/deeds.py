"""Deeds: shapes joined, shared and taken from one another, their areas and their pieces."""

from ringland.outlines import cell_edges, outline
from ringland.rings import inside


def joined(one, other):
    """Tell the outline of the spots that one of both holds; refuse with BadRings."""
    return outline(inside(one) + inside(other))


def shared(one, other):
    """Tell the outline of the spots that both hold; refuse with BadRings."""
    first = inside(one)
    second = inside(other)
    return outline([spot for spot in first if spot in second])


def taken(one, other):
    """Tell the outline of the spots that the first one holds and the second one doesn't; refuse with BadRings."""
    first = inside(one)
    second = inside(other)
    return outline([spot for spot in first if spot not in second])


def apart(one, other):
    """Tell the outline of the spots that just one holds; refuse with BadRings."""
    first = inside(one)
    second = inside(other)
    return outline([spot for spot in first + second if spot not in first or spot not in second])


def area(rings):
    """Tell how many spots the rings hold; refuse with BadRings."""
    return len(inside(rings))


def hanging_spots(first, spots):
    """List those of the spots whose cells hang together with the cell of the first one."""
    owners = {edge: spot for spot in spots for edge in cell_edges(spot)}
    found = [first]
    waiting = [first]
    while waiting:
        spot = waiting.pop()
        for start, end in cell_edges(spot):
            beyond = owners.get((end, start))
            if beyond is not None and beyond not in found:
                found.append(beyond)
                waiting.append(beyond)
    return found


def pieces(rings):
    """List the outlines of the cells that hang together, by their least spots; refuse with BadRings."""
    spots = inside(rings)
    found = []
    # Spots rise, so the first one that is left is the least of a piece, and of all that are left.
    while spots:
        piece = hanging_spots(spots[0], spots)
        found.append(outline(piece))
        spots = [spot for spot in spots if spot not in piece]
    return found

"""Which points of a web its arrows join, as lists and as bits.

Bits are points told as one number, the sum of 2 to the power of each, so that many are met in one step.
"""

from wardweb.webs import COLOURS

ONWARD = ">"
BACKWARD = "<"


def bits_of(points):
    """The bits of the points, which stand once each."""
    return sum([1 << point for point in points])


def points_of(bits):
    """The rising points of the bits."""
    return [point for point in range(bits.bit_length()) if (bits >> point) & 1 == 1]


def way_along(arrow, point):
    """How the arrow is gone along from that end of it: its colour, and onward or backward."""
    colour, start, end = arrow
    return (colour, ONWARD if start == point else BACKWARD)


def other_end(arrow, point):
    """The end of the arrow that isn't the point."""
    colour, start, end = arrow
    return end if start == point else start


def near_lists(web):
    """By ways along an arrow, for each point: the list of the points to which such arrows bring."""
    rows = {}
    for colour in COLOURS:
        rows[(colour, ONWARD)] = [web.after(colour, point) for point in range(web.points())]
        rows[(colour, BACKWARD)] = [web.before(colour, point) for point in range(web.points())]
    return rows


def near_bits(web):
    """The same lists as bits."""
    rows = near_lists(web)
    return {way: [bits_of(points) for points in rows[way]] for way in rows}


def meeting(bits, near, others):
    """Those of the bits whose near ones meet the others."""
    return bits_of([point for point in points_of(bits) if near[point] & others != 0])

"""Least parts of webs, and webs compared by their going in."""

from wardweb.maps import MOST_WAYS, first_map, least_from, refuse_ways, search_rows
from wardweb.nearby import points_of


def least_part(web):
    """The fewest points to which the web shrinks, and the map by which it does."""
    refuse_ways(web, web, MOST_WAYS)
    rows = search_rows(web, web)
    lots = [points_of(bits) for bits in range(1 << web.points())]
    # The first one found has the fewest points, so it shrinks no further; at the latest it is the lot of all.
    for points in sorted(lots, key=len):
        images = least_from(shrinking_rows(rows, points), [])
        if images is not None:
            return (points, images)


def shrinking_rows(rows, points):
    """The rows of a search for a map into the points that leads each of these to itself."""
    narrow = []
    for point, (values, links) in enumerate(rows):
        allowed = [point] if point in points else points
        narrow.append(([value for value in values if value in allowed], links))
    return narrow


def is_least(web):
    """Whether the web shrinks to no fewer points."""
    points, images = least_part(web)
    return len(points) == web.points()


def compared(one, other):
    """Which of the two goes into which: both, first, second or none."""
    there = first_map(one, other) is not None
    back = first_map(other, one) is not None
    if there:
        return "both" if back else "first"
    return "second" if back else "none"

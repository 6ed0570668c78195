"""Maps of a web into another one: searched, told and counted."""

from wardweb.copies import copied
from wardweb.errors import BadNumber, BadPoint, TooMany
from wardweb.webs import COLOURS, MARKS

MOST_WAYS = 300000
MOST_TOLD = 5000
MOST_ALIKE = 7


def is_map(one, other, images):
    """Whether the images are a map of the one web into the other one."""
    if len(images) != one.points():
        return False
    # Ahead of the arrows, as a list would answer for a place below nought, too.
    for image in images:
        if not 0 <= image < other.points():
            return False
    return keeps_arrows(one, other, images) and keeps_marks(one, other, images)


def keeps_arrows(one, other, images):
    """Whether each arrow of the one leads to an arrow of the other."""
    for colour, start, end in one.arrows():
        if images[end] not in other.after(colour, images[start]):
            return False
    return True


def keeps_marks(one, other, images):
    """Whether each marked point of the one leads to a point with that mark."""
    for mark, point in one.marks():
        if images[point] not in other.marked(mark):
            return False
    return True


def ways(one, other):
    """How many lists there are with a point of the other for each point of the one."""
    many = 1
    for point in range(one.points()):
        many *= other.points()
    return many


def first_map(one, other, *, most=MOST_WAYS):
    """The least map of the one into the other, or None."""
    refuse_ways(one, other, most)
    return least_from(search_rows(one, other), [])


def count_maps(one, other, *, most=MOST_WAYS):
    """How many maps of the one into the other there are."""
    refuse_ways(one, other, most)
    return count_from(search_rows(one, other), [])


def all_maps(one, other):
    """All maps of the one into the other, rising."""
    if ways(one, other) > MOST_TOLD:
        raise TooMany(MOST_TOLD)
    told = [[]]
    for row in search_rows(one, other):
        told = [[*images, value] for images in told for value in fitting(row, images)]
    return told


def alike(one, other):
    """The least map by which the other is the one with its points numbered anew, or None."""
    if one.points() != other.points():
        return None
    if one.points() > MOST_ALIKE:
        raise TooMany(MOST_ALIKE)
    if len(one.arrows()) != len(other.arrows()) or len(one.marks()) != len(other.marks()):
        return None
    # A map without an image twice that meets as many arrows and marks as there are leaves none out.
    told = [[]]
    for row in search_rows(one, other):
        told = [[*images, value] for images in told for value in fitting(row, images) if value not in images]
    return told[0] if len(told) > 0 else None


def led(first, second):
    """The second list's thing at each number of the first one."""
    for number in first:
        if not 0 <= number < len(second):
            raise BadPoint(number)
    return [copied(second[number]) for number in first]


def refuse_ways(one, other, most):
    """Refuse a bound that is none, and more ways than the bound."""
    if not 1 <= most <= MOST_WAYS:
        raise BadNumber(most)
    if ways(one, other) > most:
        raise TooMany(most)


def search_rows(one, other):
    """For each point of the one a pair (values, links) of what its image may be.

    The values are those that suit the point by itself. A link is a pair (near, point) for an arrow
    between it and a point ahead of it: near tells by that one's image which values go with it.
    """
    onward = tables_after(other)
    backward = tables_before(other)
    links = [[] for point in range(one.points())]
    for colour, start, end in one.arrows():
        if start < end:
            links[end].append((onward[colour], start))
        elif end < start:
            links[start].append((backward[colour], end))
    return [(suited(one, other, point), links[point]) for point in range(one.points())]


def tables_after(web):
    """By colour, for each point: to which points its arrows lead."""
    return {colour: [web.after(colour, point) for point in range(web.points())] for colour in COLOURS}


def tables_before(web):
    """By colour, for each point: from which points arrows lead to it."""
    return {colour: [web.before(colour, point) for point in range(web.points())] for colour in COLOURS}


def suited(one, other, point):
    """The other's points that have the marks of the one's point, and its arrows to itself."""
    values = list(range(other.points()))
    for mark in MARKS:
        if point in one.marked(mark):
            bearers = other.marked(mark)
            values = [value for value in values if value in bearers]
    for colour in COLOURS:
        if point in one.after(colour, point):
            values = [value for value in values if value in other.after(colour, value)]
    return values


def fitting(row, images):
    """The rising values of a row's point that go with the images of all points ahead of it."""
    values, links = row
    for near, point in links:
        allowed = near[images[point]]
        values = [value for value in values if value in allowed]
    return values


def least_from(rows, images):
    """The least map that begins with the images, or None."""
    if len(images) == len(rows):
        return images
    for value in fitting(rows[len(images)], images):
        found = least_from(rows, [*images, value])
        if found is not None:
            return found
    return None


def count_from(rows, images):
    """How many maps begin with the images."""
    if len(images) == len(rows):
        return 1
    return sum([count_from(rows, [*images, value]) for value in fitting(rows[len(images)], images)])

"""Webs made of webs, and paths."""

from wardweb.errors import BadPoint, BadText, TooMany
from wardweb.maps import ways
from wardweb.nearby import BACKWARD, ONWARD, bits_of, meeting, near_bits
from wardweb.webs import COLOURS, MARKS, MOST_POINTS, Web, refuse_missing_point


def beside(one, other):
    """The points of the one, then those of the other, with all arrows and marks of both."""
    ahead = one.points()
    refuse_more_points(ahead + other.points())
    arrows = [(colour, start + ahead, end + ahead) for colour, start, end in other.arrows()]
    marks = [(mark, point + ahead) for mark, point in other.marks()]
    return Web(ahead + other.points(), arrows=one.arrows() + arrows, marks=one.marks() + marks)


def times(one, other):
    """A point for each pair of their points, with the arrows and marks that both have."""
    wide = other.points()
    refuse_more_points(one.points() * wide)
    arrows = [(colour, start * wide + begin, end * wide + stop)
              for colour, start, end in one.arrows()
              for tint, begin, stop in other.arrows() if tint == colour]
    marks = [(mark, point * wide + place)
             for mark, point in one.marks()
             for sign, place in other.marks() if sign == mark]
    return Web(one.points() * wide, arrows=arrows, marks=marks)


def power(base, by):
    """A point for each list with a point of the base for each point of the other web."""
    refuse_more_points(ways(by, base))
    rows = lists_over(base.points(), by.points())
    arrows = [(colour, first, second)
              for colour in COLOURS
              for first, second in led_pairs(base, by, colour, rows)]
    marks = [(mark, number)
             for mark in MARKS
             for number, row in enumerate(rows) if bears(row, by.marked(mark), base.marked(mark))]
    return Web(len(rows), arrows=arrows, marks=marks)


def lists_over(values, length):
    """All lists of that length of the numbers below that many values, rising."""
    rows = [[]]
    for place in range(length):
        rows = [[*row, value] for row in rows for value in range(values)]
    return rows


def led_pairs(base, by, colour, rows):
    """The numbers of the pairs of rows between which all arrows of the colour lead to arrows of the base."""
    pairs = [(start, end) for tint, start, end in by.arrows() if tint == colour]
    there = {(start, end): True for tint, start, end in base.arrows() if tint == colour}
    return [(first, second)
            for first, row in enumerate(rows)
            for second, other in enumerate(rows) if all_lead(pairs, there, row, other)]


def all_lead(pairs, there, row, other):
    """Whether for each pair of places the first row's point at the one and the other's at the other are there."""
    for start, end in pairs:
        if (row[start], other[end]) not in there:
            return False
    return True


def bears(row, places, bearers):
    """Whether the row has one of the bearers at each of the places."""
    return all([row[place] in bearers for place in places])


def lots(web):
    """A point for each lot of the web's points that isn't empty, by its bits less one."""
    refuse_more_points((1 << web.points()) - 1)
    sums = list(range(1, 1 << web.points()))
    near = near_bits(web)
    arrows = [(colour, first - 1, second - 1)
              for colour in COLOURS for first in sums for second in sums
              if meeting(first, near[(colour, ONWARD)], second) == first
              and meeting(second, near[(colour, BACKWARD)], first) == second]
    marks = [(mark, lot - 1) for mark in MARKS for lot in sums if lot & bits_of(web.marked(mark)) == lot]
    return Web(len(sums), arrows=arrows, marks=marks)


def turned(web):
    """The web with each arrow the other way."""
    arrows = [(colour, end, start) for colour, start, end in web.arrows()]
    return Web(web.points(), arrows=arrows, marks=web.marks())


def folded(web, one, other):
    """The web with two points made one, the lesser of them."""
    refuse_missing_point(web.points(), one)
    refuse_missing_point(web.points(), other)
    if one == other:
        return web
    gone = max(one, other)
    images = {point: point if point < gone else point - 1 for point in range(web.points())}
    images[gone] = min(one, other)
    return numbered(web, web.points() - 1, images)


def kept(web, points):
    """Those points of the web alone, in their order, with the arrows and marks among them."""
    images = {}
    for point in points:
        refuse_missing_point(web.points(), point)
        if point in images:
            raise BadPoint(point)
        images[point] = len(images)
    return numbered(web, len(images), images)


def numbered(web, points, images):
    """A web of so many points with the arrows and marks whose points have images, led to these."""
    arrows = [(colour, images[start], images[end])
              for colour, start, end in web.arrows() if start in images and end in images]
    marks = [(mark, images[point]) for mark, point in web.marks() if point in images]
    return Web(points, arrows=arrows, marks=marks)


def path(text):
    """The web of a path's text."""
    # Split, the text of none would have one word.
    words = text.split(" ") if text != "" else []
    arrows = []
    marks = []
    stand = 0
    for at, word in enumerate(words):
        if word in list(MARKS):
            marks.append((word, stand))
        elif is_step(word) and stand + 1 < MOST_POINTS:
            arrows.append(step_arrow(word, stand))
            stand += 1
        else:
            raise BadText(at)
    return Web(stand + 1, arrows=arrows, marks=marks)


def is_step(word):
    """Whether the word leads on to a new point."""
    # Lists, as the empty text stands in every text.
    return word[:1] in list(COLOURS) and word[1:] in [ONWARD, BACKWARD]


def step_arrow(word, stand):
    """The arrow by which the word leads on from the point at which the path stands."""
    if word[1:] == ONWARD:
        return (word[:1], stand, stand + 1)
    return (word[:1], stand + 1, stand)


def refuse_more_points(points):
    """Refuse more points than a web has."""
    if points > MOST_POINTS:
        raise TooMany(MOST_POINTS)

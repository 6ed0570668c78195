"""Webs: points, arrows in colours and marks, and their texts."""

from wardweb.errors import BadArrow, BadMark, BadPoint, BadSize, BadText

MOST_POINTS = 81
COLOURS = "abc"
MARKS = "pqr"


class Web:
    """A web of points, arrows and marks, which never changes."""

    def __init__(self, points, *, arrows=(), marks=()):
        if not 0 <= points <= MOST_POINTS:
            raise BadSize(points)
        refuse_bad_arrows(points, arrows)
        refuse_bad_marks(points, marks)
        self.places = list(range(points))
        self.arrow_rows = sorted(set(arrows))
        self.mark_rows = sorted(set(marks))
        self.onward = gathered(self.arrow_rows)
        self.backward = gathered([(colour, end, start) for colour, start, end in self.arrow_rows])

    def points(self):
        """How many points there are."""
        return len(self.places)

    def arrows(self):
        """The arrows (colour, from, to), rising."""
        return list(self.arrow_rows)

    def marks(self):
        """The marks (mark, point), rising."""
        return list(self.mark_rows)

    def after(self, colour, point):
        """The points to which an arrow of the colour leads from the point, rising."""
        refuse_missing_point(len(self.places), point)
        return list(self.onward.get((colour, point), []))

    def before(self, colour, point):
        """The points from which an arrow of the colour leads to the point, rising."""
        refuse_missing_point(len(self.places), point)
        return list(self.backward.get((colour, point), []))

    def marked(self, mark):
        """The points that bear the mark, rising."""
        return [point for sign, point in self.mark_rows if sign == mark]

    def __eq__(self, other):
        return (isinstance(other, Web) and self.places == other.places
                and self.arrow_rows == other.arrow_rows and self.mark_rows == other.mark_rows)

    def __len__(self):
        return len(self.places)

    def __str__(self):
        arrows = [f"{start}{colour}{end}" for colour, start, end in self.arrow_rows]
        marks = [f"{mark}{point}" for mark, point in self.mark_rows]
        return " ".join([f"{len(self.places)}", *arrows, *marks])

    def __repr__(self):
        return f"Web({len(self.places)} points, {len(self.arrow_rows)} arrows, {len(self.mark_rows)} marks)"


def refuse_bad_arrows(points, arrows):
    """Refuse the first arrow of another colour or of points that aren't there."""
    # A list, as texts such as "" and "ab" stand in the text of all colours, too.
    colours = list(COLOURS)
    for at, (colour, start, end) in enumerate(arrows):
        if colour not in colours or not 0 <= start < points or not 0 <= end < points:
            raise BadArrow(at)


def refuse_bad_marks(points, marks):
    """Refuse the first mark that is another one or on a point that isn't there."""
    signs = list(MARKS)
    for at, (mark, point) in enumerate(marks):
        if mark not in signs or not 0 <= point < points:
            raise BadMark(at)


def refuse_missing_point(points, point):
    """Refuse a point that isn't one of so many."""
    if not 0 <= point < points:
        raise BadPoint(point)


def gathered(rows):
    """The last things of the rows by their first two, in the order of the rows."""
    lasts = {}
    for colour, point, last in rows:
        lasts.setdefault((colour, point), []).append(last)
    return lasts


def read_web(text):
    """The web of a text."""
    words = text.split(" ")
    points = numbers_below(MOST_POINTS + 1).get(words[0])
    if points is None:
        raise BadText(0)
    ties = read_ties(words, points)
    arrows = [tie for tie in ties if len(tie) == 3]
    marks = [tie for tie in ties if len(tie) == 2]
    return Web(points, arrows=arrows, marks=marks)


def read_ties(words, points):
    """The arrows and marks of all words but the first, each above the one ahead of it."""
    numbers = numbers_below(points)
    ties = []
    # Nothing is below the empty tuple; and each mark is above each arrow, as its letter is.
    ahead = ()
    for at, word in enumerate(words[1:], start=1):
        tie = read_tie(word, numbers)
        if tie is None or tie <= ahead:
            raise BadText(at)
        ties.append(tie)
        ahead = tie
    return ties


def read_tie(word, numbers):
    """The arrow or mark that the word tells, or None."""
    for colour in COLOURS:
        start, found, end = word.partition(colour)
        if found == colour and start in numbers and end in numbers:
            return (colour, numbers[start], numbers[end])
    for mark in MARKS:
        if word[:1] == mark and word[1:] in numbers:
            return (mark, numbers[word[1:]])
    return None


def numbers_below(bound):
    """The numbers below the bound by how they are written, so that no other writing is found."""
    return {str(number): number for number in range(bound)}

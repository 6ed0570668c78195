"""Strikes: values that a goal doesn't allow, taken out of lists, and the tree to which they unfold."""

from wardweb.errors import BadStrike, TooMany
from wardweb.nearby import BACKWARD, ONWARD, bits_of, near_bits, points_of
from wardweb.trees import tie_rows
from wardweb.webs import COLOURS, MARKS, MOST_POINTS, Web

BY_MARK = "mark"


class Board:
    """What tells of a web and a goal which strikes are right.

    The lists of values stand beside it as room: for each point of the web the bits of its values.
    """

    def __init__(self, web, goal):
        self.touching = tie_rows(web)
        self.held = {tie: True for tie in [*web.arrows(), *web.marks()]}
        self.near = near_bits(goal)
        self.bearers = {mark: bits_of(goal.marked(mark)) for mark in MARKS}
        self.values_in_all = goal.points()

    def full_room(self):
        """The lists as they are at first."""
        return [(1 << self.values_in_all) - 1] * len(self.touching)


def strikes(web, goal):
    """What is left to each point when no strike is right any more, and the strikes in their order."""
    board = Board(web, goal)
    room = board.full_room()
    row = strike_all(board, room)
    return ([points_of(bits) for bits in room], row)


def strikes_hold(web, goal, row):
    """None where all strikes of the row are right, else the number of the first that isn't."""
    board = Board(web, goal)
    return replayed(board, board.full_room(), row, {})


def unfolded(web, goal, row):
    """A tree that goes into the web and not into the goal, and its map, or None where no list is empty."""
    board = Board(web, goal)
    room = board.full_room()
    causes = {}
    wrong = replayed(board, room, row, causes)
    if wrong is not None:
        raise BadStrike(wrong)
    if 0 not in room:
        return None
    return grown(board, causes, room.index(0))


def strike_all(board, room):
    """Strike until no strike is right any more; the strikes in their order."""
    row = []
    for point, ties in enumerate(board.touching):
        for tie in ties:
            if len(tie) == 2:
                strike_rest(room, row, point, tie, board.bearers[tie[0]])
    strike_from(board, room, row, list(range(len(room))))
    return row


def strike_from(board, room, row, changed):
    """Go on striking by arrows, where the lists of the changed points are all that has changed since a rest."""
    while len(changed) > 0:
        fresh = {}
        for point in changed:
            for neighbour in strike_around(board, room, row, point):
                fresh[neighbour] = True
        changed = sorted(list(fresh))


def strike_around(board, room, row, point):
    """Strike what doesn't go with the point's list, at all arrows to and from it; the points whose lists change."""
    reach = {(colour, way): reached(board.near[(colour, way)], room[point])
             for colour in COLOURS for way in (ONWARD, BACKWARD)}
    changed = []
    for arrow in [tie for tie in board.touching[point] if len(tie) == 3]:
        colour, start, end = arrow
        if end == point and strike_rest(room, row, start, arrow, reach[(colour, BACKWARD)]):
            changed.append(start)
        if start == point and strike_rest(room, row, end, arrow, reach[(colour, ONWARD)]):
            changed.append(end)
    return changed


def reached(near, bits):
    """The bits of all that is near to some of the bits."""
    found = 0
    for value in points_of(bits):
        found = found | near[value]
    return found


def strike_rest(room, row, point, tie, allowed):
    """Strike all values of the point that aren't allowed, by the tie; whether there are any."""
    values = points_of(room[point] & ~allowed)
    row.extend([(point, value, tie) for value in values])
    room[point] = room[point] & allowed
    return len(values) > 0


def replayed(board, room, row, causes):
    """Strike as the row tells, up to the first wrong strike; its number, or None.

    The causes come to tell by (point, value) the tie by which it was struck, and how that was gone along.
    """
    for at, strike in enumerate(row):
        way = strike_way(board, room, strike)
        if way is None:
            return at
        point, value, tie = strike
        room[point] = room[point] & ~(1 << value)
        causes[(point, value)] = (tie, way)
    return None


def strike_way(board, room, strike):
    """How the strike goes along its tie, or None where it isn't right."""
    point, value, tie = strike
    if not 0 <= point < len(room) or not 0 <= value < board.values_in_all or tie not in board.held:
        return None
    if (room[point] >> value) & 1 == 0:
        return None
    if len(tie) == 2:
        return BY_MARK if tie[1] == point and (board.bearers[tie[0]] >> value) & 1 == 0 else None
    colour, start, end = tie
    if start == point and board.near[(colour, ONWARD)][value] & room[end] == 0:
        return ONWARD
    if end == point and board.near[(colour, BACKWARD)][value] & room[start] == 0:
        return BACKWARD
    return None


def grown(board, causes, top):
    """The tree of the point's empty list, with the root as its point 0, and its map into the web."""
    images = [top]
    arrows = []
    marks = []
    # Each is a point of the tree, with the bits of the values whose strikes hang there.
    bare = [(0, (1 << board.values_in_all) - 1)]
    while len(bare) > 0:
        place, bits = bare.pop()
        for value in points_of(bits):
            tie, way = causes[(images[place], value)]
            if way == BY_MARK:
                marks.append((tie[0], place))
                continue
            colour, start, end = tie
            bare.append((len(images), board.near[(colour, way)][value]))
            arrows.append((colour, place, len(images)) if way == ONWARD else (colour, len(images), place))
            images.append(end if way == ONWARD else start)
            if len(images) > MOST_POINTS:
                raise TooMany(MOST_POINTS)
    return (Web(len(images), arrows=arrows, marks=marks), images)

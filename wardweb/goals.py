"""Goals: whether trees alone tell what goes into them, and how webs go into such as are so told."""

from wardweb.errors import NotTold, TooMany
from wardweb.made import lots
from wardweb.maps import is_map, suited
from wardweb.nearby import bits_of, other_end, points_of
from wardweb.strikes import Board, strike_from, strikes
from wardweb.webs import Web

MOST_GOAL = 4


def goal_paper(goal):
    """The paper of the goal: how its lots go into it, or the web of these."""
    refuse_great_goal(goal)
    images = map_of_lots(goal)
    if images is not None:
        return ("trees", images)
    return ("web", lots(goal))


def goal_holds(goal, told):
    """Whether what is told is a right paper of the goal."""
    refuse_great_goal(goal)
    word, shown = told
    if word == "trees":
        return not isinstance(shown, Web) and is_map(lots(goal), goal, shown)
    if word == "web":
        return isinstance(shown, Web) and shown == lots(goal) and map_of_lots(goal) is None
    return False


def sought(goal, web):
    """How the web goes into a goal that is told by trees, or strikes that leave some list empty."""
    refuse_great_goal(goal)
    images = map_of_lots(goal)
    if images is None:
        raise NotTold()
    left, row = strikes(web, goal)
    if [] in left:
        return ("barred", row)
    # Lots are numbered by their bits less one.
    return ("goes", [images[bits_of(values) - 1] for values in left])


def map_of_lots(goal):
    """A map of the goal's lots into it, or None."""
    web = lots(goal)
    board = Board(web, goal)
    points = list(range(web.points()))
    # Strikes alone leave a value that has no arrow to itself at a point that has one.
    room = [bits_of(suited(web, goal, point)) for point in points]
    strike_from(board, room, [], points)
    found = settled(board, room, points)
    return None if found is None else [bits.bit_length() - 1 for bits in found]


def settled(board, room, points):
    """The room with one value alone left to each of the points, so that no strike is right, or None."""
    if 0 in room:
        return None
    # Pieces don't matter to each other, so where one can't be settled no other one is tried anew.
    for piece in unsure_pieces(board, room, points):
        room = settled_piece(board, room, piece)
        if room is None:
            return None
    return room


def settled_piece(board, room, piece):
    """The same for points that hang together, by trying each value of one with the fewest."""
    point = min(piece, key=lambda place: len(points_of(room[place])))
    for value in points_of(room[point]):
        trial = list(room)
        trial[point] = 1 << value
        strike_from(board, trial, [], [point])
        found = settled(board, trial, piece)
        if found is not None:
            return found
    return None


def unsure_pieces(board, room, points):
    """The points that have several values left, in lists of such as hang together without any other point."""
    left = {point: True for point in points if len(points_of(room[point])) > 1}
    pieces = []
    while len(left) > 0:
        pieces.append(taken_piece(board, left, min(list(left))))
    return pieces


def taken_piece(board, left, first):
    """The points that hang together with the first one, which are left no longer."""
    del left[first]
    piece = [first]
    fresh = [first]
    while len(fresh) > 0:
        point = fresh.pop()
        for arrow in [tie for tie in board.touching[point] if len(tie) == 3]:
            neighbour = other_end(arrow, point)
            if neighbour in left:
                del left[neighbour]
                piece.append(neighbour)
                fresh.append(neighbour)
    return piece


def refuse_great_goal(goal):
    """Refuse a goal that has more points than are looked at."""
    if goal.points() > MOST_GOAL:
        raise TooMany(MOST_GOAL)

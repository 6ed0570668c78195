"""Wards of trees, and papers that tell by a map whether a tree goes into a web or not."""

from wardweb.errors import TooMany
from wardweb.made import times
from wardweb.maps import is_map
from wardweb.nearby import bits_of, meeting, near_bits, way_along
from wardweb.trees import hanging, laid_below, lay, refuse_no_tree, spots, tie_rows
from wardweb.webs import COLOURS, MARKS, Web

MOST_WARD = 64


def choices(tree):
    """The choices of one tie at each point of the tree, rising."""
    refuse_great_ward(tree)
    told = [()]
    for row in tie_rows(tree):
        told = [(*choice, tie) for choice in told for tie in row]
    return told


def ward(tree):
    """The web into which just those webs go into which the tree doesn't go."""
    told = choices(tree)
    barred = barred_arrows(tree, told)
    arrows = [(colour, first, second)
              for colour in COLOURS for first in range(len(told)) for second in range(len(told))
              if (colour, first, second) not in barred]
    marks = [(mark, number)
             for mark in MARKS
             for number, choice in enumerate(told) if mark not in [tie[0] for tie in choice]]
    return Web(len(told), arrows=arrows, marks=marks)


def into_ward(tree, web):
    """A map of the web into the tree's ward, or None where the tree goes into the web."""
    numbers = {choice: number for number, choice in enumerate(choices(tree))}
    if len(spots(tree, web, 0)) > 0:
        return None
    rows = held_ties(tree, web)
    return [numbers[tuple([lost_tie(row, point) for row in rows])] for point in range(web.points())]


def paper(tree, web):
    """The paper of the tree and the web: how the tree lies in it, or how it is shut out."""
    refuse_great_ward(tree)
    images = lay(tree, web)
    if images is not None:
        return ("lies", images)
    return ("shut", into_ward(tree, web))


def paper_holds(tree, web, told):
    """Whether what is told is a paper of the tree and the web."""
    refuse_great_ward(tree)
    word, images = told
    if word == "lies":
        return is_map(tree, web, images)
    if word == "shut":
        return is_map(web, ward(tree), images)
    return False


def below(tree):
    """The tree times its ward."""
    return times(tree, ward(tree))


def refuse_great_ward(tree):
    """Refuse a web that is no tree, and a tree with more choices than a ward has points."""
    refuse_no_tree(tree)
    many = 1
    for row in tie_rows(tree):
        many *= len(row)
    if many > MOST_WARD:
        raise TooMany(MOST_WARD)


def barred_arrows(tree, told):
    """The arrows between numbers of choices that the ward doesn't have, as keys."""
    barred = {}
    for arrow in tree.arrows():
        colour, start, end = arrow
        firsts = [number for number, choice in enumerate(told) if choice[start] == arrow]
        seconds = [number for number, choice in enumerate(told) if choice[end] == arrow]
        for first in firsts:
            for second in seconds:
                barred[(colour, first, second)] = True
    return barred


def held_ties(tree, web):
    """For each point of the tree pairs (tie, bits) of where in the web the tie holds, with all that hangs by it.

    The arrow by which a point itself hangs comes last, as if it held nowhere. So it is chosen just where all else
    at the point holds; then the point ahead of it doesn't choose this arrow at any neighbour of that place, and no
    arrow of the web leads to one that the ward lacks.
    """
    near = near_bits(web)
    room = laid_below(tree, web, near, 0)
    everywhere = (1 << web.points()) - 1
    rows = [[] for point in range(tree.points())]
    for mark, point in tree.marks():
        rows[point].append(((mark, point), bits_of(web.marked(mark))))
    for point, ahead, arrow in hanging(tree, 0):
        rows[ahead].append((arrow, meeting(everywhere, near[way_along(arrow, ahead)], room[point])))
    for point, ahead, arrow in hanging(tree, 0):
        rows[point].append((arrow, 0))
    return rows


def lost_tie(row, point):
    """The first tie of the row that doesn't hold at the point of the web."""
    return [tie for tie, bits in row if (bits >> point) & 1 == 0][0]

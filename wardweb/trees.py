"""Trees: told from other webs, their ties, and where they can be laid."""

from wardweb.errors import NotTree
from wardweb.maps import suited
from wardweb.nearby import bits_of, meeting, near_bits, near_lists, other_end, points_of, way_along
from wardweb.webs import refuse_missing_point


def is_tree(web):
    """Whether the web has a point, hangs together, and has one arrow fewer than points."""
    # A web of no points falls here, too, as it would need one arrow fewer than none.
    if len(web.arrows()) != web.points() - 1:
        return False
    return len(hanging(web, 0)) == web.points() - 1


def ties(tree, point):
    """The arrows from and to the point and the marks on it, rising."""
    refuse_no_tree(tree)
    refuse_missing_point(tree.points(), point)
    return tie_rows(tree)[point]


def lay(tree, web):
    """The least map of the tree into the web, or None."""
    refuse_no_tree(tree)
    near = near_bits(web)
    room = laid_below(tree, web, near, 0)
    if room[0] == 0:
        return None
    # Each value that is left to a point goes on to a whole map, so the least one may be taken without a look back.
    for point in range(tree.points()):
        room[point] = room[point] & -room[point]
        narrow(tree, near, room, point)
    return [bits.bit_length() - 1 for bits in room]


def lays(tree, web):
    """How many maps of the tree into the web there are."""
    refuse_no_tree(tree)
    near = near_lists(web)
    counts = [counted(suited(tree, web, point), web.points()) for point in range(tree.points())]
    for point, ahead, arrow in hanging(tree, 0)[::-1]:
        rows = near[way_along(arrow, ahead)]
        many = [sum([counts[point][value] for value in row]) for row in rows]
        counts[ahead] = [count * more for count, more in zip(counts[ahead], many)]
    return sum(counts[0])


def spots(tree, web, point):
    """The points of the web at which the tree can be laid by that point of it, rising."""
    refuse_no_tree(tree)
    refuse_missing_point(tree.points(), point)
    return points_of(laid_below(tree, web, near_bits(web), point)[point])


def refuse_no_tree(web):
    """Refuse a web that is no tree."""
    if not is_tree(web):
        raise NotTree()


def tie_rows(web):
    """For each point its ties, rising."""
    rows = [[] for point in range(web.points())]
    # Arrows come ahead of marks, as their letters do.
    for arrow in web.arrows():
        colour, start, end = arrow
        rows[start].append(arrow)
        if end != start:
            rows[end].append(arrow)
    for mark, point in web.marks():
        rows[point].append((mark, point))
    return rows


def hanging(web, root):
    """A row (point, ahead, arrow) for each point that hangs together with the root, outward from it.

    The arrow is the one by which the point hangs from a point ahead of it, the root or one of an earlier row.
    """
    touching = tie_rows(web)
    seen = {root: True}
    fresh = [root]
    rows = []
    while len(fresh) > 0:
        ahead = fresh.pop()
        for arrow in [tie for tie in touching[ahead] if len(tie) == 3]:
            point = other_end(arrow, ahead)
            if point not in seen:
                seen[point] = True
                fresh.append(point)
                rows.append((point, ahead, arrow))
    return rows


def laid_below(tree, web, near, root):
    """For each point of the tree the bits of where it can be laid with all that hangs from it, away from the root."""
    room = [bits_of(suited(tree, web, point)) for point in range(tree.points())]
    for point, ahead, arrow in hanging(tree, root)[::-1]:
        room[ahead] = meeting(room[ahead], near[way_along(arrow, ahead)], room[point])
    return room


def narrow(tree, near, room, root):
    """Take out of the room of all other points what doesn't go with the room of the root."""
    for point, ahead, arrow in hanging(tree, root):
        room[point] = meeting(room[point], near[way_along(arrow, point)], room[ahead])


def counted(values, many):
    """A row with 1 at each of the values, and 0 at all others of so many."""
    row = [0] * many
    for value in values:
        row[value] = 1
    return row

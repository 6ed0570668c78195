"""Webs and trees that several test files look at, and the document's words followed as plainly as may be."""

import itertools
import random

from wardweb.webs import COLOURS, MARKS, Web

FAR = 10 ** 30 - 1


def refusal(kind, call, *places, **names):
    """The refusal of that very kind by which the call ends."""
    try:
        call(*places, **names)
    except kind as refused:
        if refused.word != kind.__name__:
            raise AssertionError(f"{refused.word} stands where {kind.__name__} is due") from refused
        return refused
    raise AssertionError(f"{kind.__name__} is due")


def plain_is_map(one, other, images):
    """What [5] says, word for word, of a list of the right length with points of the other."""
    arrows = set(other.arrows())
    marks = set(other.marks())
    return (all((colour, images[start], images[end]) in arrows for colour, start, end in one.arrows())
            and all((mark, images[point]) in marks for mark, point in one.marks()))


def plain_maps(one, other):
    lists = itertools.product(range(other.points()), repeat=one.points())
    return [list(images) for images in lists if plain_is_map(one, other, images)]


def some_webs(seed, many, most_points, density):
    """Webs of several sizes, the same ones in each run."""
    dice = random.Random(seed)
    made = []
    for _ in range(many):
        points = dice.randint(0, most_points)
        arrows = [arrow for arrow in itertools.product(COLOURS, range(points), range(points))
                  if dice.random() < density]
        marks = [mark for mark in itertools.product(MARKS, range(points)) if dice.random() < density]
        made.append(Web(points, arrows=arrows, marks=marks))
    return made


def small_webs():
    """All webs of at most two points with arrows and marks of one kind."""
    made = []
    for points in range(3):
        arrows = list(itertools.product("b", range(points), range(points)))
        things = arrows + list(itertools.product("q", range(points)))
        for size in range(len(things) + 1):
            for some in itertools.combinations(things, size):
                made.append(Web(points, arrows=[tie for tie in some if len(tie) == 3],
                                marks=[tie for tie in some if len(tie) == 2]))
    return made


def full_web(points):
    """All arrows and marks that so many points can have."""
    arrows = list(itertools.product(COLOURS, range(points), range(points)))
    return Web(points, arrows=arrows, marks=list(itertools.product(MARKS, range(points))))


def bare_ring(points, colour="a"):
    return Web(points, arrows=[(colour, point, (point + 1) % points) for point in range(points)])


def bare_star(leaves, colour="a"):
    """A tree with one point from which arrows lead to all others."""
    return Web(leaves + 1, arrows=[(colour, 0, leaf) for leaf in range(1, leaves + 1)])


def some_tree(dice, points, colours=COLOURS, density=0.2):
    """A tree that grew by chance, its points numbered by chance."""
    numbers = list(range(points))
    dice.shuffle(numbers)
    arrows = []
    for point in range(1, points):
        ends = [numbers[point], numbers[dice.randrange(point)]]
        dice.shuffle(ends)
        arrows.append((dice.choice(colours), ends[0], ends[1]))
    marks = [mark for mark in itertools.product(MARKS, range(points)) if dice.random() < density]
    return Web(points, arrows=arrows, marks=marks)


def some_trees(seed, many, most_points, colours=COLOURS, density=0.2):
    dice = random.Random(seed)
    return [some_tree(dice, dice.randint(1, most_points), colours, density) for _ in range(many)]

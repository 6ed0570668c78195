"""Strikes, and the trees to which they unfold: [17], [18]."""

import inspect
import itertools
import random
import unittest

from samples import FAR, bare_ring, full_web, plain_is_map, plain_maps, refusal, small_webs, some_webs
from wardweb import strikes as module
from wardweb.errors import BadStrike, TooMany
from wardweb.made import beside, path
from wardweb.strikes import strikes, strikes_hold, unfolded
from wardweb.trees import is_tree, lay
from wardweb.webs import Web, read_web


def all_lists(web, goal):
    return [set(range(goal.points())) for _ in range(web.points())]


def plain_way(web, goal, lists, strike):
    """How the strike is right, as [17] says it: "mark", "from" or "to", or None."""
    point, value, tie = strike
    if point not in range(web.points()) or value not in lists[point]:
        return None
    if tie in web.marks():
        return "mark" if tie[1] == point and (tie[0], value) not in goal.marks() else None
    if tie not in web.arrows():
        return None
    colour, start, end = tie
    if start == point and not any((colour, value, other) in goal.arrows() for other in lists[end]):
        return "from"
    if end == point and not any((colour, other, value) in goal.arrows() for other in lists[start]):
        return "to"
    return None


def plain_hold(web, goal, row):
    lists = all_lists(web, goal)
    for at, strike in enumerate(row):
        if plain_way(web, goal, lists, strike) is None:
            return at
        lists[strike[0]].remove(strike[1])
    return None


def right_ones(web, goal, lists):
    ties = [*web.arrows(), *web.marks()]
    return [(point, value, tie) for tie in ties for point in sorted(set(tie[1:])) for value in sorted(lists[point])
            if plain_way(web, goal, lists, (point, value, tie)) is not None]


def plain_rest(dice, web, goal):
    """The lists at rest and a row, struck by chance."""
    lists, row = all_lists(web, goal), []
    while True:
        right = right_ones(web, goal, lists)
        if not right:
            return [sorted(values) for values in lists], row
        strike = dice.choice(right)
        lists[strike[0]].remove(strike[1])
        row.append(strike)


class Great(Exception):
    pass


def plain_branch(web, goal, row):
    """The tree of [18] as (its marks, its branches), or None; Great where it has more than 81 points."""
    lists, causes = all_lists(web, goal), {}
    for strike in row:
        causes[strike[:2]] = (plain_way(web, goal, lists, strike), strike[2])
        lists[strike[0]].remove(strike[1])
    empty = [point for point in range(web.points()) if not lists[point]]
    if not empty:
        return None
    left = [81]

    def hung(point, values):
        left[0] -= 1
        if left[0] < 0:
            raise Great()
        marks, branches = set(), []
        for value in values:
            way, tie = causes[(point, value)]
            if way == "mark":
                marks.add(tie[0])
            elif way == "from":
                branches.append((tie[0], way, tie[2], hung(tie[2], goal.after(tie[0], value))))
            else:
                branches.append((tie[0], way, tie[1], hung(tie[1], goal.before(tie[0], value))))
        return (sorted(marks), sorted(branches))

    return (empty[0], hung(empty[0], range(goal.points())))


def branch_of(tree, images, point, ahead=None):
    """A told tree in that form, with where each point is led."""
    branches = []
    for colour, start, end in tree.arrows():
        if start == point and end != ahead:
            branches.append((colour, "from", images[end], branch_of(tree, images, end, point)))
        if end == point and start != ahead:
            branches.append((colour, "to", images[start], branch_of(tree, images, start, point)))
    return (sorted(mark for mark, place in tree.marks() if place == point), sorted(branches))


def pairs(seed, many, most=5):
    dice = random.Random(seed)
    made = []
    for _ in range(many):
        one, other = dice.choice((0.08, 0.15, 0.3)), dice.choice((0.1, 0.25, 0.5))
        made.append((some_webs(dice.random(), 1, most, one)[0], some_webs(dice.random(), 1, most, other)[0]))
    return made


class Interface(unittest.TestCase):
    def test_names_of_what_is_handed_in(self):
        told = {"strikes": "(web, goal)", "strikes_hold": "(web, goal, row)", "unfolded": "(web, goal, row)"}
        for name, signature in told.items():
            self.assertEqual(str(inspect.signature(getattr(module, name))), signature)
            self.assertEqual(getattr(module, name).__module__, "wardweb.strikes")

    def test_handed_in_by_name(self):
        web, goal = path("p"), Web(1)
        lists, row = strikes(goal=goal, web=web)
        self.assertEqual((lists, row), ([[]], [(0, 0, ("p", 0))]))
        self.assertIsNone(strikes_hold(row=row, goal=goal, web=web))
        self.assertEqual(unfolded(row=row, goal=goal, web=web), (path("p"), [0]))

    def test_told_lists_are_new_and_handed_things_stay(self):
        web, goal = path("a> a> p"), path("a> p a>")
        for ask in (lambda: strikes(web, goal)[0], lambda: strikes(web, goal)[0][0], lambda: strikes(web, goal)[1],
                    lambda: unfolded(web, goal, strikes(web, goal)[1])[1]):
            told = ask()
            again = list(told)
            told.append(5)
            self.assertEqual(ask(), again)
        row = strikes(web, goal)[1]
        again = list(row)
        strikes_hold(web, goal, row)
        unfolded(web, goal, row)
        self.assertEqual(row, again)
        self.assertEqual((web, goal), (path("a> a> p"), path("a> p a>")))

    def test_kinds(self):
        lists, row = told = strikes(path("a> p"), path("a> a>"))
        self.assertIs(type(told), tuple)
        self.assertEqual([type(one) for one in (lists, lists[0], row, row[0], row[0][2])],
                         [list, list, list, tuple, tuple])
        told = unfolded(path("a> p"), path("a> a>"), row)
        self.assertEqual([type(one) for one in (told, told[0], told[1])], [tuple, Web, list])


class AtRest(unittest.TestCase):
    def judge(self, web, goal):
        lists, row = strikes(web, goal)
        where = (str(web), str(goal))
        self.assertIsNone(plain_hold(web, goal, row), where)
        self.assertEqual(right_ones(web, goal, [set(values) for values in lists]), [], where)
        struck = all_lists(web, goal)
        for point, value, _ in row:
            struck[point].remove(value)
        self.assertEqual(lists, [sorted(values) for values in struck], where)
        self.assertEqual(strikes(web, goal), (lists, row))
        return lists, row

    def test_no_points_and_one(self):
        self.assertEqual(strikes(Web(0), Web(0)), ([], []))
        self.assertEqual(strikes(Web(0), full_web(3)), ([], []))
        self.assertEqual(strikes(Web(2), Web(0)), ([[], []], []))
        self.assertEqual(strikes(full_web(2), Web(0)), ([[], []], []))
        self.assertEqual(strikes(Web(1), Web(1)), ([[0]], []))
        self.assertEqual(strikes(Web(3), Web(2)), ([[0, 1], [0, 1], [0, 1]], []))

    def test_by_hand(self):
        self.assertEqual(strikes(path("q"), read_web("3 p0 q1 q2")), ([[1, 2]], [(0, 0, ("q", 0))]))
        lists, row = strikes(path("a>"), path("a>"))
        self.assertEqual(lists, [[0], [1]])
        self.assertEqual(sorted(row), [(0, 1, ("a", 0, 1)), (1, 0, ("a", 0, 1))])
        self.assertEqual(strikes(path("a> a>"), path("a> a> a>"))[0], [[0, 1], [1, 2], [2, 3]])
        self.assertEqual(strikes(path("a> a>"), path("a>"))[0], [[], [], []])
        self.assertEqual(strikes(path("a> a<"), path("a>"))[0], [[0], [1], [0]])
        # Values that hang in a ring stay, though there is no map.
        self.assertEqual(strikes(bare_ring(3), bare_ring(2))[0], [[0, 1]] * 3)
        # An arrow from a point to itself leaves a ring, and takes out all that leads to it or from it.
        self.assertEqual(strikes(read_web("1 0a0"), read_web("5 0a1 1a2 2a1 2a3 3a4"))[0], [[1, 2]])
        self.assertEqual(strikes(read_web("1 0a0"), path("a> a> a>"))[0], [[]])

    def test_small_ones(self):
        for web, goal in itertools.product(small_webs(), small_webs()):
            self.judge(web, goal)

    def test_however_they_are_struck(self):
        dice = random.Random(301)
        for web, goal in pairs(302, 120):
            lists, row = self.judge(web, goal)
            for _ in range(2):
                other_lists, other_row = plain_rest(dice, web, goal)
                self.assertEqual(lists, other_lists)
                self.assertEqual(len(row), len(other_row))

    def test_maps_keep_to_the_lists(self):
        for web, goal in pairs(303, 80, 4):
            lists = strikes(web, goal)[0]
            for images in plain_maps(web, goal):
                self.assertTrue(all(image in values for image, values in zip(images, lists)))

    def test_great_webs(self):
        line = path(" ".join(["a>"] * 80))
        lists, row = strikes(line, path(" ".join(["a>"] * 79)))
        self.assertEqual((lists, len(row)), ([[]] * 81, 81 * 80))
        self.assertEqual(strikes(line, line)[0], [[point] for point in range(81)])
        self.assertEqual(strikes(bare_ring(81), line)[0], [[]] * 81)
        self.assertEqual(strikes(bare_ring(81), bare_ring(80)), ([list(range(80))] * 81, []))
        self.assertEqual(strikes(full_web(81), full_web(81)), ([list(range(81))] * 81, []))
        self.assertEqual(strikes(full_web(81), line)[0], [[]] * 81)
        marked = Web(81, arrows=bare_ring(81).arrows(), marks=[("p", 5)])
        for web, goal in ((marked, marked), (full_web(81), line), (line, marked), (bare_ring(81, "c"), full_web(81))):
            row = strikes(web, goal)[1]
            self.assertIsNone(strikes_hold(web, goal, row))
        self.assertEqual(strikes(marked, marked)[0], [[point] for point in range(81)])


class Hold(unittest.TestCase):
    def test_the_row_and_its_beginnings(self):
        for web, goal in pairs(311, 60):
            row = strikes(web, goal)[1]
            self.assertIsNone(strikes_hold(web, goal, row))
            for end in range(len(row)):
                self.assertIsNone(strikes_hold(web, goal, row[:end]))
        self.assertIsNone(strikes_hold(Web(0), Web(0), []))
        self.assertIsNone(strikes_hold(full_web(2), Web(0), ()))

    def bent_rows(self, dice, web, goal, row):
        at = dice.randrange(len(row))
        point, value, tie = row[at]
        ties = [*web.arrows(), *web.marks(), ("c", 0, 0), ("a", point, point), ("r", point)]
        others = [(dice.randint(-1, web.points()), value, tie), (point, dice.randint(-1, goal.points()), tie),
                  (point, value, dice.choice(ties))]
        yield row[:at] + row[at + 1:]
        yield row[:at] + [row[at]] + row[at:]
        yield row + [row[at]]
        yield [row[at]] + row
        yield row[:at] + row[at + 1:at + 2] + [row[at]] + row[at + 2:]
        for strike in others:
            yield row[:at] + [strike] + row[at + 1:]
        mixed = list(row)
        dice.shuffle(mixed)
        yield mixed
        yield row[::-1]

    def test_bent_rows_by_the_words(self):
        dice = random.Random(312)
        wrong = 0
        for web, goal in pairs(313, 150):
            row = strikes(web, goal)[1]
            if row:
                for bent in self.bent_rows(dice, web, goal, row):
                    told = strikes_hold(web, goal, bent)
                    self.assertEqual(told, plain_hold(web, goal, bent), (str(web), str(goal), bent))
                    wrong += told is not None
                    if told is not None:
                        self.assertEqual(refusal(BadStrike, unfolded, web, goal, bent).at, told)
        self.assertGreater(wrong, 300)

    def test_each_kind_of_wrong_one(self):
        web, goal = read_web("2 0a1 p0"), read_web("3 0a1 1a2 p0 p2")
        good = [(0, 1, ("p", 0)), (0, 2, ("a", 0, 1)), (1, 0, ("a", 0, 1)), (1, 2, ("a", 0, 1))]
        self.assertIsNone(strikes_hold(web, goal, good))
        for at, bad in ((0, (0, 0, ("p", 0))), (0, (1, 1, ("p", 0))), (0, (0, 1, ("q", 0))), (0, (0, 1, ("p", 1))),
                        (0, (1, 2, ("a", 0, 1))), (0, (0, 0, ("a", 0, 1))), (0, (0, 1, ("a", 1, 0))),
                        (0, (0, 1, ("b", 0, 1))), (1, (0, 1, ("p", 0))), (1, (0, 0, ("a", 0, 1))),
                        (3, (1, 1, ("a", 0, 1))), (4, (1, 1, ("a", 0, 1))), (4, (0, 0, ("a", 0, 1)))):
            self.assertEqual(strikes_hold(web, goal, good[:at] + [bad] + good[at:]), at, bad)

    def test_numbers_that_are_none(self):
        web, goal = read_web("2 0a1 p0"), read_web("2 0a1")
        self.assertIsNone(strikes_hold(web, goal, [(0, 0, ("p", 0)), (0, 1, ("p", 0))]))
        for number in (-1, -2, 2, 3, 81, FAR, -FAR):
            for bad in ((number, 0, ("p", 0)), (0, number, ("p", 0)), (0, 0, ("p", number)),
                        (number, 0, ("a", 0, 1)), (1, number, ("a", 0, 1)), (1, 0, ("a", number, 1)),
                        (1, 0, ("a", 0, number)), (number, number, ("p", number))):
                self.assertEqual(strikes_hold(web, goal, [bad]), 0, bad)
                self.assertEqual(strikes_hold(web, goal, [(0, 1, ("a", 0, 1)), bad, bad]), 1, bad)

    def test_a_goal_without_points(self):
        self.assertEqual(strikes_hold(path("p"), Web(0), [(0, 0, ("p", 0))]), 0)
        self.assertEqual(strikes_hold(Web(0), path("p"), [(0, 0, ("p", 0))]), 0)

    def test_a_loop_strikes_either_way(self):
        web = read_web("1 0a0")
        loop = ("a", 0, 0)
        self.assertIsNone(strikes_hold(web, path("a>"), [(0, 1, loop), (0, 0, loop)]))
        self.assertIsNone(strikes_hold(web, path("a>"), [(0, 0, loop), (0, 1, loop)]))
        self.assertEqual(strikes_hold(web, path("a> a>"), [(0, 1, loop)]), 0)
        self.assertEqual(strikes_hold(web, path("a> a>"), [(0, 2, loop), (0, 1, loop), (0, 0, loop)]), None)
        self.assertEqual(strikes_hold(web, read_web("1 0a0"), [(0, 0, loop)]), 0)

    def test_rows_as_tuples(self):
        web, goal = path("a> a>"), path("a>")
        row = tuple(strikes(web, goal)[1])
        self.assertIsNone(strikes_hold(web, goal, row))
        self.assertEqual(strikes_hold(web, goal, row + row), len(row))

    def test_long_rows(self):
        web, goal = full_web(81), path(" ".join(["a>"] * 80))
        row = strikes(web, goal)[1]
        self.assertEqual(strikes_hold(web, goal, row + [row[0]] * (20000 - len(row))), len(row))


class Unfolded(unittest.TestCase):
    def judge(self, web, goal, row):
        where = (str(web), str(goal), row)
        try:
            due = plain_branch(web, goal, row)
        except Great:
            self.assertEqual(refusal(TooMany, unfolded, web, goal, row).bound, 81)
            return "great"
        told = unfolded(web, goal, row)
        if due is None:
            self.assertIsNone(told, where)
            return "none"
        tree, images = told
        self.assertTrue(is_tree(tree), where)
        self.assertEqual(len(images), tree.points())
        self.assertTrue(plain_is_map(tree, web, images), where)
        self.assertIsNone(lay(tree, goal), where)
        roots = [point for point in range(tree.points()) if images[point] == due[0]]
        self.assertIn(due[1], [branch_of(tree, images, point) for point in roots], where)
        self.assertEqual(unfolded(web, goal, row), told)
        return "tree"

    def test_by_hand(self):
        self.assertEqual(unfolded(path("p"), Web(3), [(0, value, ("p", 0)) for value in (2, 0, 1)]), (path("p"), [0]))
        tree, images = unfolded(path("a>"), path("p"), [(1, 0, ("a", 0, 1))])
        self.assertEqual((tree.points(), sorted(images)), (2, [0, 1]))
        self.assertEqual([(images[start], images[end]) for _, start, end in tree.arrows()], [(0, 1)])
        # Each value has a branch of its own, though both are struck by the same arrow.
        tree, images = unfolded(path("a>"), Web(2), [(0, 0, ("a", 0, 1)), (0, 1, ("a", 0, 1))])
        self.assertEqual(sorted(images), [0, 1, 1])
        self.assertEqual(len(tree.arrows()), 2)

    def test_none_where_no_list_is_empty(self):
        self.assertIsNone(unfolded(Web(0), Web(0), []))
        self.assertIsNone(unfolded(path("a>"), path("a>"), strikes(path("a>"), path("a>"))[1]))
        self.assertIsNone(unfolded(bare_ring(3), bare_ring(2), []))
        # All but the last strike.
        self.assertIsNone(unfolded(path("p"), Web(2), [(0, 0, ("p", 0))]))
        self.assertIsNone(unfolded(path("p"), Web(1), []))

    def test_a_goal_without_points(self):
        self.assertEqual(unfolded(Web(1), Web(0), []), (Web(1), [0]))
        self.assertEqual(unfolded(full_web(4), Web(0), ()), (Web(1), [0]))
        self.assertIsNone(unfolded(Web(0), Web(0), []))

    def test_the_least_point(self):
        web = Web(3, marks=[("p", 1), ("q", 2)])
        row = [(2, 0, ("q", 2)), (1, 0, ("p", 1))]
        self.assertEqual(unfolded(web, Web(1), row), (path("p"), [1]))
        self.assertEqual(unfolded(web, Web(1), row[:1]), (path("q"), [2]))

    def test_loops(self):
        web, loop = read_web("1 0a0"), ("a", 0, 0)
        goal = path("a> a>")
        for values in itertools.permutations(range(3)):
            row = [(0, value, loop) for value in values]
            if plain_hold(web, goal, row) is None:
                self.assertEqual(self.judge(web, goal, row), "tree")
        # Both ways are right of a point without arrows: then it is struck as from the point.
        tree, images = unfolded(web, Web(1), [(0, 0, loop)])
        self.assertEqual((tree, images), (path("a>"), [0, 0]))
        self.assertEqual(unfolded(web, path("a>"), [(0, 1, loop), (0, 0, loop)])[0].points(), 4)

    def test_rows_by_chance(self):
        dice = random.Random(321)
        seen = {"great": 0, "none": 0, "tree": 0}
        for web, goal in [*pairs(322, 150), *pairs(323, 100, 4), *itertools.product(small_webs(), small_webs())]:
            row = strikes(web, goal)[1]
            seen[self.judge(web, goal, row)] += 1
            if web.points() * goal.points() <= 16:
                row = plain_rest(dice, web, goal)[1]
                seen[self.judge(web, goal, row)] += 1
                self.judge(web, goal, row[:dice.randint(0, len(row))])
        self.assertGreater(seen["tree"], 100)
        self.assertGreater(seen["none"], 100)

    def test_wrong_rows_ahead_of_all(self):
        web, goal = path("p"), Web(2)
        for row, at in (([(0, 0, ("q", 0))], 0), ([(0, 0, ("p", 0)), (0, 0, ("p", 0))], 1),
                        ([(0, 0, ("p", 0)), (0, 1, ("p", 0)), (0, 1, ("p", 0))], 2)):
            self.assertEqual(refusal(BadStrike, unfolded, web, goal, row).at, at)
            self.assertEqual(refusal(BadStrike, unfolded, web, goal, tuple(row)).at, at)
        self.assertEqual(refusal(BadStrike, unfolded, Web(1), Web(0), [(0, 0, ("p", 0))]).at, 0)
        self.assertEqual(refusal(BadStrike, unfolded, Web(0), Web(0), [(0, 0, ("p", 0))]).at, 0)
        # The tree would have too many points, too.
        web, goal = self.wide(81)
        row = strikes(web, goal)[1]
        self.assertEqual(refusal(BadStrike, unfolded, web, goal, row + [row[0]]).at, len(row))

    def wide(self, values):
        """The tree of the row has one point for each value, and one more."""
        return path("a>"), Web(values)

    def test_just_as_many_points(self):
        web, goal = self.wide(80)
        row = [(0, value, ("a", 0, 1)) for value in range(80)]
        tree, images = unfolded(web, goal, row)
        self.assertEqual((tree.points(), images.count(0), images.count(1)), (81, 1, 80))
        self.assertEqual(self.judge(web, goal, row), "tree")
        web, goal = self.wide(81)
        self.assertEqual(refusal(TooMany, unfolded, web, goal, [(0, value, ("a", 0, 1)) for value in range(81)]).bound,
                         81)
        # Marks bring no points.
        self.assertEqual(unfolded(path("p"), Web(81), [(0, value, ("p", 0)) for value in range(81)]), (path("p"), [0]))

    def test_long_lines(self):
        # Each point of the line is struck down from the end, so the tree grows as fast as it can.
        for most in range(1, 9):
            web, goal = path(" ".join(["a>"] * (most + 1))), path(" ".join(["a>"] * most))
            self.judge(web, goal, strikes(web, goal)[1])
        line = path(" ".join(["a>"] * 80))
        loop = read_web("1 0a0")
        # From a line's end the values of a loop are struck one by one; each hangs from the one ahead.
        for many in (10, 11, 12, 13):
            goal = path(" ".join(["a>"] * many))
            self.judge(loop, goal, [(0, value, ("a", 0, 0)) for value in range(many, -1, -1)])
        self.assertEqual(self.judge(loop, line, [(0, value, ("a", 0, 0)) for value in range(80, -1, -1)]), "great")

    def test_rows_beyond_an_empty_list(self):
        web, goal = beside(path("p"), path("q")), read_web("2")
        row = strikes(web, goal)[1]
        self.assertEqual(len(row), 4)
        self.assertEqual(self.judge(web, goal, row), "tree")
        self.assertEqual(self.judge(web, goal, row[:2]), "tree")

    def test_rows_as_tuples(self):
        web, goal = path("a> a>"), path("a>")
        row = strikes(web, goal)[1]
        self.assertEqual(unfolded(web, goal, tuple(row)), unfolded(web, goal, row))


if __name__ == "__main__":
    unittest.main()

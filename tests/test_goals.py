"""Goals, and whether they are told by trees: [19]."""

import inspect
import itertools
import random
import unittest

from samples import FAR, bare_ring, full_web, plain_is_map, plain_maps, refusal, small_webs, some_webs
from wardweb import goals
from wardweb.errors import NotTold, TooMany
from wardweb.goals import MOST_GOAL, goal_holds, goal_paper, sought
from wardweb.made import beside, lots, path
from wardweb.strikes import strikes_hold, unfolded
from wardweb.trees import lay
from wardweb.wards import ward
from wardweb.webs import Web, read_web

LINE = path("a> a> a>")
ORDER = Web(4, arrows=[("a", x, y) for x in range(4) for y in range(x + 1, 4)])
UNTOLD = [bare_ring(2), bare_ring(3), bare_ring(4), Web(3, arrows=[("a", x, y) for x in range(3) for y in range(3)
                                                                  if x != y]),
          read_web("4 2a3 3a2 3b0 3b2 3b3"), read_web("4 1a2 2a3 3a1"), read_web("4 0a1 2b3 3b2"),
          beside(bare_ring(2), bare_ring(2)), beside(Web(1), bare_ring(3, "c"))]


def doors(goal, web=Web(1)):
    return [lambda: goal_paper(goal), lambda: goal_holds(goal, ("trees", [0])), lambda: goal_holds(goal, ("web", web)),
            lambda: goal_holds(goal, ("", [])), lambda: sought(goal, web)]


def left_empty(web, goal, row):
    """Whether some list is empty behind the row."""
    lists = [set(range(goal.points())) for _ in range(web.points())]
    for point, value, _ in row:
        lists[point].remove(value)
    return any(not values for values in lists)


class Interface(unittest.TestCase):
    def test_constant(self):
        self.assertEqual(MOST_GOAL, 4)

    def test_names_of_what_is_handed_in(self):
        told = {"goal_paper": "(goal)", "goal_holds": "(goal, told)", "sought": "(goal, web)"}
        for name, signature in told.items():
            self.assertEqual(str(inspect.signature(getattr(goals, name))), signature)
            self.assertEqual(getattr(goals, name).__module__, "wardweb.goals")

    def test_handed_in_by_name(self):
        self.assertEqual(goal_paper(goal=Web(1)), ("trees", [0]))
        self.assertTrue(goal_holds(told=("trees", [0]), goal=Web(1)))
        self.assertEqual(sought(web=Web(2), goal=Web(1)), ("goes", [0, 0]))

    def test_told_lists_are_new_and_handed_things_stay(self):
        goal, web = path("a>"), path("a> a>")
        for ask in (lambda: goal_paper(goal)[1], lambda: sought(goal, web)[1], lambda: sought(goal, path("a<"))[1]):
            told = ask()
            again = list(told)
            told.append(5)
            self.assertEqual(ask(), again)
        images = goal_paper(goal)[1]
        again = list(images)
        goal_holds(goal, ("trees", images))
        self.assertEqual(images, again)
        self.assertEqual((str(goal), str(web)), ("2 0a1", "3 0a1 1a2"))


class Papers(unittest.TestCase):
    def judge(self, goal):
        told = goal_paper(goal)
        self.assertIs(type(told), tuple)
        word, shown = told
        where = str(goal)
        if word == "trees":
            self.assertIs(type(shown), list)
            self.assertEqual(len(shown), lots(goal).points())
            self.assertTrue(plain_is_map(lots(goal), goal, shown), where)
        else:
            self.assertEqual(word, "web")
            self.assertIs(type(shown), Web)
            self.assertEqual(shown, lots(goal))
        self.assertIs(goal_holds(goal, told), True, where)
        self.assertEqual(goal_paper(goal), told)
        return word

    def test_by_hand(self):
        for points in range(5):
            self.assertEqual(self.judge(Web(points)), "trees")
            self.assertEqual(self.judge(full_web(points)), "trees")
        self.assertEqual(goal_paper(Web(0)), ("trees", []))
        self.assertEqual(goal_paper(Web(1)), ("trees", [0]))
        for goal in (LINE, ORDER, path("a> b< p"), read_web("1 0a0"), read_web("2 0a1 1a1"), path("p a> q")):
            self.assertEqual(self.judge(goal), "trees", str(goal))
        for goal in UNTOLD:
            self.assertEqual(self.judge(goal), "web", str(goal))

    def test_small_goals_by_the_words(self):
        seen = {"trees": 0, "web": 0}
        for goal in [*small_webs(), *some_webs(401, 40, 3, 0.3), *some_webs(402, 40, 3, 0.15)]:
            word = self.judge(goal)
            self.assertEqual(word == "trees", len(plain_maps(lots(goal), goal)) > 0)
            seen[word] += 1
        self.assertGreater(min(seen.values()), 5)

    def test_four_points(self):
        dice = random.Random(403)
        for _ in range(150):
            density = dice.choice((0.1, 0.2, 0.4, 0.6, 0.8, 0.95))
            arrows = [arrow for arrow in itertools.product(dice.choice(("a", "ab", "abc")), range(4), range(4))
                      if dice.random() < density]
            marks = [mark for mark in itertools.product("pq", range(4)) if dice.random() < 0.3]
            goal = Web(4, arrows=arrows, marks=marks)
            if self.judge(goal) == "web":
                self.assertFalse(self.map_found(goal), str(goal))

    def map_found(self, goal):
        """Whether a map of the lots is found in so many steps by a plain search, those with most arrows first."""
        web = lots(goal)
        order = sorted(range(web.points()), key=lambda lot: -sum(lot in arrow[1:] for arrow in web.arrows()))
        marks, arrows = set(goal.marks()), set(goal.arrows())
        images = {}
        steps = [0]

        def fits(lot, value):
            if any(place == lot and (mark, value) not in marks for mark, place in web.marks()):
                return False
            images[lot] = value
            good = all((colour, images[x], images[y]) in arrows for colour, x, y in web.arrows()
                       if lot in (x, y) and x in images and y in images)
            del images[lot]
            return good

        def search(at):
            steps[0] += 1
            if steps[0] > 3000:
                return False
            if at == len(order):
                return True
            for value in range(goal.points()):
                if fits(order[at], value):
                    images[order[at]] = value
                    if search(at + 1):
                        return True
                    del images[order[at]]
            return False

        return search(0)

    def test_where_the_first_values_tried_do_not_go_on(self):
        for text in ("4 0a0 0a1 0a2 1a1 1a2 1a3 2a3 3a0 3a3 p1 p3", "4 1a1 2a0 2a3 3a0 0b0 0b1 1b1 1b2 2b2 p2 p3",
                     "4 0a2 0a3 1a3 2a1 3a3 p3", "4 1a1 1a3 2a0 2a1 3a0 3a3 p2",
                     "4 0a0 0a3 1a0 1a1 2a0 2a1 2a2 3a2 3a3 p3", "4 0a0 0a1 1a1 1a2 2a0 2a2 3a0 2b1 2b2 3b0 3b1",
                     "4 0a2 1a0 1a3 2a1 2a2 3a0 3a2 3a3 p0 p3", "4 0a1 1a1 1a2 1a3 2a0 2a2 2a3 3a0 3a3",
                     "4 0a1 1a1 1a3 2a1 2a3 3a0 3a3", "4 0a1 1a1 2a1 2a2 0b2 1b1 1b2 2b3 3b0 3b1 3b3"):
            self.assertEqual(self.judge(read_web(text)), "trees", text)

    def test_each_tree_of_the_lots_goes_into_the_goal(self):
        trees = [path(text) for text in ("", "a>", "a> a>", "a> a> a>", "a> a<", "a< a> a>", "a> b>", "b> a<", "b< b>",
                                         "a> a> a< a> a>")]
        for goal in UNTOLD:
            for tree in trees:
                self.assertEqual(lay(tree, lots(goal)) is None, lay(tree, goal) is None)

    def test_wards_are_told_by_trees(self):
        for text in ("p", "p q", "a>", "a> a>", "a> p", "p a> b<", "p a> q a>"):
            goal = ward(path(text))
            if goal.points() <= 4:
                self.assertEqual(self.judge(goal), "trees")
                self.assertEqual(sought(goal, goal)[0], "goes")
                self.assertEqual(sought(goal, path(text))[0], "barred")


class Holds(unittest.TestCase):
    def test_other_maps(self):
        goal = Web(2)
        for images in itertools.product(range(-1, 3), repeat=3):
            self.assertIs(goal_holds(goal, ("trees", list(images))), all(0 <= image < 2 for image in images))
        self.assertIs(goal_holds(goal, ("trees", (1, 0, 1))), True)

    def test_all_lists_by_the_words(self):
        for goal in [*small_webs(), *some_webs(411, 12, 2, 0.4)]:
            good = plain_maps(lots(goal), goal)
            for images in itertools.product(range(goal.points()), repeat=lots(goal).points()):
                self.assertIs(goal_holds(goal, ("trees", list(images))), list(images) in good)

    def test_bent(self):
        for goal in (LINE, ORDER, path("p a> q"), full_web(3), Web(4, marks=[("p", 0)])):
            images = goal_paper(goal)[1]
            for bent in (images[:-1], [*images, 0], [], [0] * 20000):
                self.assertIs(goal_holds(goal, ("trees", bent)), False)
            for at in range(len(images)):
                for number in (-1, -4, goal.points(), FAR, -FAR):
                    self.assertIs(goal_holds(goal, ("trees", [*images[:at], number, *images[at + 1:]])), False)
        images = goal_paper(LINE)[1]
        self.assertIs(goal_holds(LINE, ("trees", [3, 2, 1, *images[3:]])), False)
        self.assertIs(goal_holds(LINE, ("trees", [1, *images[1:]])), False)

    def test_bent_webs(self):
        goal = bare_ring(3)
        web = lots(goal)
        self.assertIs(goal_holds(goal, ("web", web)), True)
        for bent in (Web(0), goal, Web(7), beside(web, Web(1)), Web(7, arrows=web.arrows()[1:]),
                     Web(7, arrows=web.arrows(), marks=[("p", 0)]), Web(7, arrows=[*web.arrows(), ("b", 0, 0)])):
            self.assertIs(goal_holds(goal, ("web", bent)), False)

    def test_the_other_word(self):
        for goal in UNTOLD:
            web = lots(goal)
            self.assertIs(goal_holds(goal, ("trees", web)), False)
            for image in range(goal.points()):
                self.assertIs(goal_holds(goal, ("trees", [image] * web.points())), False)
            self.assertIs(goal_holds(goal, ("web", [0] * web.points())), False)
            self.assertIs(goal_holds(goal, ("web", [])), False)
        for goal in (Web(0), Web(1), LINE, ORDER, full_web(2)):
            images = goal_paper(goal)[1]
            self.assertIs(goal_holds(goal, ("web", images)), False)
            # Such a goal is told by trees, so the web of its lots shows nothing else.
            self.assertIs(goal_holds(goal, ("web", lots(goal))), False)
            self.assertIs(goal_holds(goal, ("trees", lots(goal))), False)

    def test_any_other_text(self):
        for word in ("", "tree", "webs", "Trees", "trees ", " web", "WEB", "lies", "shut", "t", "w"):
            self.assertIs(goal_holds(LINE, (word, goal_paper(LINE)[1])), False)
            self.assertIs(goal_holds(bare_ring(3), (word, lots(bare_ring(3)))), False)
            self.assertIs(goal_holds(Web(0), (word, [])), False)
            self.assertIs(goal_holds(Web(0), (word, Web(0))), False)

    def test_no_points(self):
        self.assertIs(goal_holds(Web(0), ("trees", [])), True)
        self.assertIs(goal_holds(Web(0), ("trees", ())), True)
        self.assertIs(goal_holds(Web(0), ("trees", Web(0))), False)
        self.assertIs(goal_holds(Web(0), ("web", [])), False)
        self.assertIs(goal_holds(Web(0), ("web", Web(0))), False)


class Sought(unittest.TestCase):
    def judge(self, goal, web):
        told = sought(goal, web)
        self.assertIs(type(told), tuple)
        word, shown = told
        where = (str(goal), str(web)[:100])
        self.assertIs(type(shown), list)
        if word == "goes":
            self.assertEqual(len(shown), web.points(), where)
            self.assertTrue(all(0 <= image < goal.points() for image in shown), where)
            self.assertTrue(plain_is_map(web, goal, shown), where)
        else:
            self.assertEqual(word, "barred")
            self.assertIsNone(strikes_hold(web, goal, shown), where)
            self.assertTrue(left_empty(web, goal, shown), where)
        self.assertEqual(sought(goal, web), told)
        return word

    def test_by_hand(self):
        self.assertEqual(sought(Web(0), Web(0)), ("goes", []))
        self.assertEqual(sought(LINE, Web(0)), ("goes", []))
        self.assertEqual(sought(Web(0), Web(3)), ("barred", []))
        self.assertEqual(sought(LINE, LINE), ("goes", [0, 1, 2, 3]))
        self.assertEqual(self.judge(LINE, path("a> a> a> a>")), "barred")
        self.assertEqual(self.judge(ORDER, beside(path("a> a> a>"), path("a> a< a>"))), "goes")
        self.assertEqual(self.judge(ORDER, bare_ring(3)), "barred")
        self.assertEqual(self.judge(path("p"), path("q")), "barred")

    def test_by_the_searches(self):
        webs = [*some_webs(421, 12, 4, 0.12), *some_webs(422, 8, 4, 0.3), *small_webs()]
        seen = {"goes": 0, "barred": 0}
        for goal in [*small_webs(), *some_webs(423, 30, 3, 0.4), LINE, ORDER]:
            if goal_paper(goal)[0] == "trees":
                for web in webs:
                    word = self.judge(goal, web)
                    self.assertEqual(word == "goes", len(plain_maps(web, goal)) > 0)
                    seen[word] += 1
        self.assertGreater(min(seen.values()), 100)

    def test_strikes_unfold(self):
        for goal, web in ((path("a>"), path("a> a>")), (LINE, read_web("2 0a1 1a1")), (path("p a>"), path("a> p"))):
            word, row = sought(goal, web)
            self.assertEqual(word, "barred")
            tree, images = unfolded(web, goal, row)
            self.assertTrue(plain_is_map(tree, web, images))
            self.assertIsNone(lay(tree, goal))

    def test_great_webs(self):
        dice = random.Random(424)
        for goal in (ORDER, LINE, full_web(4), read_web("2 0a1 1a1 p0")):
            for web in (Web(81), bare_ring(81), full_web(81), path(" ".join(["a>", "a<"] * 40)),
                        Web(81, arrows=[("a", x, y) for x in range(81) for y in range(81) if x % 4 < y % 4]),
                        Web(81, arrows=[("a", x, y) for x in range(81) for y in range(81)
                                        if x % 4 < y % 4 and dice.random() < 0.1])):
                self.judge(goal, web)

    def test_not_told(self):
        for goal in UNTOLD:
            for web in (Web(0), Web(1), goal, lots(goal), full_web(81)):
                refusal(NotTold, sought, goal, web)


class Bounds(unittest.TestCase):
    def test_more_points_are_refused_ahead_of_all(self):
        for goal in (Web(5), Web(6), Web(7), Web(81), bare_ring(5), full_web(81), full_web(6), path("a> a> a> a>")):
            for ask in doors(goal):
                self.assertEqual(refusal(TooMany, ask).bound, 4)
            self.assertEqual(refusal(TooMany, goal_holds, goal, ("web", [0])).bound, 4)
            self.assertEqual(refusal(TooMany, goal_holds, goal, ("trees", goal)).bound, 4)
        for ask in doors(Web(4)):
            ask()


if __name__ == "__main__":
    unittest.main()

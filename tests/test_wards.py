"""Wards, papers, and what lies below a tree: [12], [13], [14]."""

import inspect
import itertools
import random
import unittest

from samples import (FAR, bare_ring, bare_star, full_web, plain_maps, refusal, small_webs, some_tree, some_trees,
                     some_webs)
from wardweb import wards
from wardweb.errors import NotTree, TooMany
from wardweb.made import beside, path, times
from wardweb.maps import MOST_WAYS, first_map, is_map, ways
from wardweb.trees import is_tree, lay, ties
from wardweb.wards import MOST_WARD, below, choices, into_ward, paper, paper_holds, ward
from wardweb.webs import COLOURS, MARKS, Web, read_web

NO_TREES = [Web(0), Web(2), read_web("1 0a0"), read_web("2 0a1 1a0"), read_web("3 0a1 1a2 2a0"), full_web(9), Web(81)]
GREAT_TREES = [bare_star(65), path(" ".join(["a>"] * 8)), path(" ".join(["a>"] * 80)), bare_star(80),
               path("p a> p b> p c> p a< p"), some_tree(random.Random(90), 81, density=0.6)]


def plain_choices(tree):
    return sorted(itertools.product(*[ties(tree, point) for point in range(tree.points())]))


def plain_ward(tree):
    told = plain_choices(tree)

    def lacks(colour, first, second):
        return any(tint == colour and first[x] == (tint, x, y) and second[y] == (tint, x, y)
                   for tint, x, y in tree.arrows())

    arrows = [(colour, x, y) for colour in COLOURS for x, first in enumerate(told) for y, second in enumerate(told)
              if not lacks(colour, first, second)]
    marks = [(mark, x) for mark in MARKS for x, choice in enumerate(told)
             if not any(choice[point] == (mark, point) for point in range(tree.points()))]
    return Web(len(told), arrows=arrows, marks=marks)


def small_wards(seed, many, most_points, colours=COLOURS, density=0.15):
    """Trees whose wards aren't refused."""
    return [tree for tree in some_trees(seed, many, most_points, colours, density) if len(plain_choices(tree)) <= 64]


def doors(tree, web):
    """All that is asked of a tree here."""
    return [lambda: choices(tree), lambda: ward(tree), lambda: into_ward(tree, web), lambda: paper(tree, web),
            lambda: paper_holds(tree, web, ("lies", [0])), lambda: paper_holds(tree, web, ("shut", [])),
            lambda: paper_holds(tree, web, ("", [])), lambda: below(tree)]


class Interface(unittest.TestCase):
    def test_constant(self):
        self.assertEqual(MOST_WARD, 64)

    def test_names_of_what_is_handed_in(self):
        told = {"choices": "(tree)", "ward": "(tree)", "into_ward": "(tree, web)", "paper": "(tree, web)",
                "paper_holds": "(tree, web, told)", "below": "(tree)"}
        for name, signature in told.items():
            self.assertEqual(str(inspect.signature(getattr(wards, name))), signature)
            self.assertEqual(getattr(wards, name).__module__, "wardweb.wards")

    def test_handed_in_by_name(self):
        tree, web = read_web("1 p0"), read_web("1 q0")
        self.assertEqual(choices(tree=tree), [(("p", 0),)])
        self.assertEqual(ward(tree=tree).points(), 1)
        self.assertEqual(into_ward(web=web, tree=tree), [0])
        self.assertEqual(paper(web=web, tree=tree), ("shut", [0]))
        self.assertTrue(paper_holds(told=("shut", [0]), web=web, tree=tree))
        self.assertEqual(below(tree=tree), Web(1))

    def test_told_lists_are_new_and_handed_things_stay(self):
        tree, web, shut = read_web("2 0a1 p0"), read_web("3 1a2 p1"), read_web("3 1a2 p2")
        texts = [str(web) for web in (tree, web, shut)]
        for ask in (lambda: choices(tree), lambda: into_ward(tree, shut), lambda: paper(tree, web)[1],
                    lambda: paper(tree, shut)[1]):
            told = ask()
            again = list(told)
            told.append(5)
            self.assertEqual(ask(), again)
        images = [1, 2]
        self.assertTrue(paper_holds(tree, web, ("lies", images)))
        self.assertEqual(images, [1, 2])
        ward(tree)
        below(tree)
        self.assertEqual([str(web) for web in (tree, web, shut)], texts)

    def test_no_tree_ahead_of_all(self):
        for web in NO_TREES:
            for ask in doors(web, full_web(2)):
                refusal(NotTree, ask)
        # Here there would be too many choices, too, if it were a tree.
        for ask in doors(beside(bare_star(40), bare_star(39)), Web(0)):
            refusal(NotTree, ask)


class Choices(unittest.TestCase):
    def test_of_a_bare_point(self):
        self.assertEqual(choices(Web(1)), [])

    def test_of_marks(self):
        self.assertEqual(choices(read_web("1 q0")), [(("q", 0),)])
        self.assertEqual(choices(read_web("1 p0 q0 r0")), [(("p", 0),), (("q", 0),), (("r", 0),)])

    def test_of_an_arrow(self):
        self.assertEqual(choices(read_web("2 0a1")), [(("a", 0, 1), ("a", 0, 1))])
        self.assertEqual(choices(read_web("2 1b0")), [(("b", 1, 0), ("b", 1, 0))])

    def test_several_ties_at_a_point(self):
        self.assertEqual(choices(read_web("3 0a1 2a1 p1 q0")), [
            (("a", 0, 1), ("a", 0, 1), ("a", 2, 1)), (("a", 0, 1), ("a", 2, 1), ("a", 2, 1)),
            (("a", 0, 1), ("p", 1), ("a", 2, 1)), (("q", 0), ("a", 0, 1), ("a", 2, 1)),
            (("q", 0), ("a", 2, 1), ("a", 2, 1)), (("q", 0), ("p", 1), ("a", 2, 1))])

    def test_by_the_words(self):
        for tree in small_wards(101, 60, 7):
            self.assertEqual(choices(tree), plain_choices(tree))
        self.assertEqual(choices(bare_star(64)), plain_choices(bare_star(64)))

    def test_tuples_in_a_list(self):
        told = choices(path("a> b> p"))
        self.assertIs(type(told), list)
        self.assertEqual({type(choice) for choice in told}, {tuple})


class Wards(unittest.TestCase):
    def test_of_a_bare_point(self):
        self.assertEqual(ward(Web(1)), Web(0))

    def test_of_a_mark(self):
        self.assertEqual(ward(read_web("1 p0")), read_web("1 0a0 0b0 0c0 q0 r0"))
        self.assertEqual(ward(read_web("1 p0 r0")),
                         read_web("2 0a0 0a1 1a0 1a1 0b0 0b1 1b0 1b1 0c0 0c1 1c0 1c1 p1 q0 q1 r0"))

    def test_of_an_arrow(self):
        self.assertEqual(ward(read_web("2 0a1")), read_web("1 0b0 0c0 p0 q0 r0"))
        self.assertEqual(ward(read_web("2 1c0")), read_web("1 0a0 0b0 p0 q0 r0"))

    def test_of_an_arrow_to_a_mark(self):
        # Choices: the arrow at both ends; the arrow and the mark.
        self.assertEqual(ward(read_web("2 0a1 p1")),
                         read_web("2 0a1 1a1 0b0 0b1 1b0 1b1 0c0 0c1 1c0 1c1 p0 q0 q1 r0 r1"))

    def test_of_two_arrows(self):
        # Choices at the midst: the first arrow, the second; so the ward goes upward alone.
        told = ward(path("a> a>"))
        self.assertEqual([arrow for arrow in told.arrows() if arrow[0] == "a"], [("a", 0, 1)])
        self.assertEqual([arrow for arrow in ward(path("a> b>")).arrows() if arrow[0] != "c"],
                         [("a", 0, 1), ("a", 1, 1), ("b", 0, 0), ("b", 0, 1)])

    def test_by_the_words(self):
        for tree in [*small_wards(102, 60, 6), *small_wards(103, 30, 8, "a", 0.05), bare_star(12),
                     path("a> a> a> a> a> a> a>")]:
            self.assertEqual(ward(tree), plain_ward(tree), str(tree))


class Bounds(unittest.TestCase):
    def test_just_as_many(self):
        for tree in (bare_star(64), path("a> b< c> a> a> a> a<"), path("p a> p q a> q r a> r")):
            self.assertEqual(len(choices(tree)), 64)
            self.assertEqual(ward(tree).points(), 64)
            self.assertEqual(paper(tree, Web(81)), ("shut", into_ward(tree, Web(81))))
            self.assertTrue(paper_holds(tree, Web(81), paper(tree, Web(81))))
            self.assertEqual(paper(tree, full_web(3)), ("lies", [0] * tree.points()))

    def test_more_are_refused_at_all_doors(self):
        for tree in GREAT_TREES:
            self.assertTrue(is_tree(tree))
            for web in (Web(0), full_web(2), full_web(81)):
                for ask in doors(tree, web):
                    self.assertEqual(refusal(TooMany, ask).bound, 64)

    def test_one_more(self):
        # 5 ties at one point and 13 at another are 65 choices; 8 and 8 are 64.
        def double_star(left, right):
            return Web(left + right, arrows=[("a", 0, 1)] + [("a", 0, leaf) for leaf in range(2, left + 1)]
                       + [("b", 1, leaf) for leaf in range(left + 1, left + right)])
        self.assertEqual(len(choices(double_star(8, 8))), 64)
        self.assertEqual(len(choices(double_star(4, 16))), 64)
        for ask in doors(double_star(5, 13), full_web(2)):
            self.assertEqual(refusal(TooMany, ask).bound, 64)


class JustOne(unittest.TestCase):
    known = {}

    def judge(self, tree, web):
        laid, shut = lay(tree, web), into_ward(tree, web)
        where = (str(tree), str(web)[:200])
        self.assertNotEqual(laid is None, shut is None, where)
        if laid is not None:
            self.assertTrue(is_map(tree, web, laid), where)
            self.assertEqual(paper(tree, web), ("lies", laid))
        else:
            if str(tree) not in self.known:
                self.known[str(tree)] = plain_ward(tree)
            self.assertTrue(is_map(web, self.known[str(tree)], shut), where)
            self.assertEqual(paper(tree, web), ("shut", shut))
            self.assertEqual(into_ward(tree, web), shut)
        self.assertIs(paper_holds(tree, web, paper(tree, web)), True)
        return laid is not None

    def test_small_trees_and_webs(self):
        texts = ("", "q", "q p", "b>", "b<", "b> q", "q b>", "q b> q", "b> b>", "b> b<", "b< b>", "b> b> b>",
                 "q b> b< q", "q b> q b> q", "b> b< b>", "b> b< b> q b>")
        for tree, web in itertools.product([path(text) for text in texts], small_webs()):
            self.assertEqual(self.judge(tree, web), len(plain_maps(tree, web)) > 0)

    def test_many_trees_and_webs(self):
        webs = [*some_webs(111, 10, 6, 0.1), *some_webs(112, 10, 4, 0.4), *some_webs(113, 6, 9, 0.15)]
        for tree in [*small_wards(114, 30, 6), *small_wards(115, 30, 8, "a", 0.05)]:
            for web in webs:
                self.judge(tree, web)

    def test_what_goes_into_the_ward_by_the_searches(self):
        webs = [*small_webs(), *some_webs(116, 20, 3, 0.3)]
        for tree in small_wards(117, 20, 5, "ab", 0.1):
            told = ward(tree)
            for web in webs:
                if ways(web, told) <= MOST_WAYS // 3:
                    self.assertEqual(first_map(web, told) is None, len(plain_maps(tree, web)) > 0)

    def test_greater_webs(self):
        dice = random.Random(118)
        layers = Web(81, arrows=[("a", x, y) for x in range(81) for y in range(81) if x % 7 + 1 == y % 7])
        both = {True: 0, False: 0}
        for tree in (path("a> a> a> a> a> a>"), path("a> a> a> a> a> a> a>"), path("a> a> a> a> a< a> a>"),
                     bare_star(64), bare_star(9, "b"), path("a> a> a> a> a> a> p")):
            for web in (layers, bare_ring(81), full_web(81), Web(81), path(" ".join(["a>", "a>", "a<"] * 26))):
                both[self.judge(tree, web)] += 1
            for density in (0.002, 0.006, 0.02):
                web = Web(81, arrows=[arrow for arrow in itertools.product("ab", range(81), range(81))
                                      if dice.random() < density],
                          marks=[mark for mark in itertools.product(MARKS, range(81)) if dice.random() < 0.1])
                both[self.judge(tree, web)] += 1
        self.assertGreater(min(both.values()), 10)

    def test_wards_and_trees_themselves(self):
        for tree in small_wards(119, 40, 6):
            self.assertFalse(self.judge(tree, ward(tree)))
            self.assertTrue(self.judge(tree, tree))

    def test_webs_without_points(self):
        for tree in (Web(1), read_web("1 p0"), path("a> b<")):
            self.assertFalse(self.judge(tree, Web(0)))
            self.assertEqual(paper(tree, Web(0)), ("shut", []))

    def test_a_bare_point(self):
        for web in (Web(1), full_web(81), bare_ring(5)):
            self.assertTrue(self.judge(Web(1), web))
            self.assertEqual(paper(Web(1), web), ("lies", [0]))


class Papers(unittest.TestCase):
    TREE = path("a> a>")
    LONG = path("a> a> a>")
    SHORT = path("a>")

    def test_by_word_and_map(self):
        self.assertEqual(paper(self.TREE, self.LONG), ("lies", [0, 1, 2]))
        self.assertEqual(paper(self.TREE, self.SHORT), ("shut", [0, 1]))
        for web in (self.LONG, self.SHORT):
            self.assertIs(type(paper(self.TREE, web)), tuple)
            self.assertIs(type(paper(self.TREE, web)[1]), list)

    def test_as_told_and_others_that_are_maps(self):
        self.assertIs(paper_holds(self.TREE, self.LONG, ("lies", [0, 1, 2])), True)
        self.assertIs(paper_holds(self.TREE, self.LONG, ("lies", [1, 2, 3])), True)
        self.assertIs(paper_holds(self.TREE, self.LONG, ("lies", (1, 2, 3))), True)
        self.assertIs(paper_holds(self.TREE, self.SHORT, ("shut", [0, 1])), True)
        self.assertIs(paper_holds(self.TREE, self.SHORT, ("shut", (0, 1))), True)
        # Point 2 hangs by no arrow, so either choice will do for it.
        for number in (0, 1):
            self.assertIs(paper_holds(self.TREE, read_web("3 0a1"), ("shut", [0, 1, number])), True)

    def test_the_other_word(self):
        self.assertIs(paper_holds(self.TREE, self.LONG, ("shut", [0, 1, 2])), False)
        self.assertIs(paper_holds(self.TREE, self.LONG, ("shut", [0, 1, 0, 1])), False)
        self.assertIs(paper_holds(self.TREE, self.SHORT, ("lies", [0, 1])), False)
        self.assertIs(paper_holds(self.TREE, self.SHORT, ("lies", [0, 1, 0])), False)
        for told in (("shut", []), ("lies", []), ("lies", [0])):
            self.assertIs(paper_holds(read_web("1 p0"), Web(0), told), told == ("shut", []))

    def test_no_web_is_shut_where_the_tree_lies(self):
        for images in itertools.product(range(-1, 3), repeat=4):
            self.assertIs(paper_holds(self.TREE, self.LONG, ("shut", list(images))), False)
        for images in itertools.product(range(-1, 3), repeat=3):
            self.assertIs(paper_holds(self.TREE, self.SHORT, ("lies", list(images))), False)

    def test_bent_longer_and_shorter(self):
        for web in (self.LONG, self.SHORT):
            word, images = paper(self.TREE, web)
            for bent in (images[:-1], [*images, 0], [*images, images[-1]], [], images[::-1], [0] * 20000):
                self.assertIs(paper_holds(self.TREE, web, (word, bent)), False, bent)
            for at in range(len(images)):
                for number in (-1, -2, -len(images), 4, 5, FAR, -FAR):
                    bent = [*images[:at], number, *images[at + 1:]]
                    self.assertIs(paper_holds(self.TREE, web, (word, bent)), False, bent)
        self.assertIs(paper_holds(self.TREE, self.LONG, ("lies", [0, 1, 3])), False)
        self.assertIs(paper_holds(self.TREE, self.SHORT, ("shut", [0, 0])), False)
        self.assertIs(paper_holds(self.TREE, self.SHORT, ("shut", [1, 1])), False)
        self.assertIs(paper_holds(self.TREE, self.SHORT, ("shut", [0, 2])), False)

    def test_any_other_text(self):
        for word in ("", "lie", "lies ", " lies", "Lies", "SHUT", "shuts", "lies\n", "trees", "web", "l", "s"):
            self.assertIs(paper_holds(self.TREE, self.LONG, (word, [0, 1, 2])), False)
            self.assertIs(paper_holds(self.TREE, self.SHORT, (word, [0, 1])), False)

    def test_marks_count(self):
        tree, web = read_web("1 p0 q0"), read_web("3 p0 q1")
        word, images = paper(tree, web)
        self.assertEqual((word, images[0], images[1]), ("shut", 1, 0))
        for told in itertools.product(range(2), repeat=3):
            self.assertIs(paper_holds(tree, web, ("shut", list(told))), told[:2] == (1, 0))

    def test_all_lists_by_the_words(self):
        webs = some_webs(121, 12, 3, 0.25)
        for tree in small_wards(122, 12, 3, "ab", 0.15):
            for web in webs:
                told = plain_ward(tree)
                for word, one, other in (("lies", tree, web), ("shut", web, told)):
                    if ways(one, other) <= 1000:
                        good = plain_maps(one, other)
                        for images in itertools.product(range(other.points()), repeat=one.points()):
                            self.assertIs(paper_holds(tree, web, (word, list(images))), list(images) in good)


class Below(unittest.TestCase):
    def test_the_tree_times_its_ward(self):
        self.assertEqual(below(Web(1)), Web(0))
        self.assertEqual(below(read_web("1 p0")), Web(1))
        self.assertEqual(below(read_web("2 0a1")), Web(2))
        # Pairs of a point and a choice; just the arrow from the first choice to the second is in the ward.
        self.assertEqual(below(path("a> a>")), read_web("6 0a3 2a5"))
        for tree in small_wards(131, 40, 5):
            if tree.points() * len(plain_choices(tree)) <= 81:
                self.assertEqual(below(tree), times(tree, plain_ward(tree)))

    def test_it_goes_into_the_tree_and_the_tree_not_into_it(self):
        for tree in small_wards(132, 30, 4):
            if tree.points() * len(plain_choices(tree)) <= 81:
                told = below(tree)
                wide = len(plain_choices(tree))
                self.assertTrue(is_map(told, tree, [point // wide for point in range(told.points())]))
                self.assertIsNone(lay(tree, told))

    def test_all_else_that_does_so_goes_into_it(self):
        webs = [*small_webs(), *some_webs(133, 60, 3, 0.12)]
        for tree in [path(text) for text in ("q", "b>", "b> q", "b> b>", "q b> b<", "a> b<")]:
            told = below(tree)
            for web in webs:
                if first_map(web, tree) is not None and lay(tree, web) is None:
                    self.assertIsNotNone(first_map(web, told))

    def test_the_bounds(self):
        tree = Web(9, arrows=bare_star(8).arrows(), marks=[("p", 0)])
        self.assertEqual(below(tree).points(), 81)
        for tree in (bare_star(9), path("a> a> a> a> a>"), bare_star(64), path("a> a> a> a> a> a> a>")):
            self.assertEqual(refusal(TooMany, below, tree).bound, 81)
        for tree in GREAT_TREES:
            self.assertEqual(refusal(TooMany, below, tree).bound, 64)


if __name__ == "__main__":
    unittest.main()

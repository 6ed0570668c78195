"""Trees, their ties, and where they can be laid: [10], [11]."""

import inspect
import itertools
import random
import unittest

from samples import (FAR, bare_ring, bare_star, full_web, plain_maps, refusal, small_webs, some_tree, some_trees,
                     some_webs)
from wardweb import trees
from wardweb.errors import BadPoint, NotTree
from wardweb.made import beside, path, turned
from wardweb.maps import first_map, is_map, ways
from wardweb.trees import is_tree, lay, lays, spots, ties
from wardweb.webs import COLOURS, MARKS, Web, read_web

NO_TREES = [Web(0), Web(2), read_web("1 0a0"), read_web("2 0a1 0b1"), read_web("2 0a1 1a0"), read_web("3 0a1 1a2 2a0"),
            read_web("3 0a1 1a0"), read_web("2 0a0"), read_web("3 0a1 2b2"), read_web("4 0a1 1a2 2a0"),
            read_web("2 0a1 1b1"), full_web(3), full_web(81), Web(81)]


def plain_is_tree(web):
    """Points joined one by one: what hangs together has one group of points left."""
    groups = list(range(web.points()))
    for _, start, end in web.arrows():
        groups = [groups[start] if group == groups[end] else group for group in groups]
    return web.points() > 0 and len(set(groups)) == 1 and len(web.arrows()) == web.points() - 1


class Interface(unittest.TestCase):
    def test_names_of_what_is_handed_in(self):
        told = {"is_tree": "(web)", "ties": "(tree, point)", "lay": "(tree, web)", "lays": "(tree, web)",
                "spots": "(tree, web, point)"}
        for name, signature in told.items():
            self.assertEqual(str(inspect.signature(getattr(trees, name))), signature)
            self.assertEqual(getattr(trees, name).__module__, "wardweb.trees")

    def test_handed_in_by_name(self):
        tree, web = read_web("2 0a1"), read_web("3 1a2")
        self.assertTrue(is_tree(web=tree))
        self.assertEqual(ties(point=0, tree=tree), [("a", 0, 1)])
        self.assertEqual(lay(web=web, tree=tree), [1, 2])
        self.assertEqual(lays(web=web, tree=tree), 1)
        self.assertEqual(spots(point=1, web=web, tree=tree), [2])

    def test_told_lists_are_new_and_handed_webs_stay(self):
        tree, web = read_web("2 0a1 p0"), read_web("3 1a2 2a1 p1 p2")
        texts = (str(tree), str(web))
        for ask in (lambda: ties(tree, 0), lambda: lay(tree, web), lambda: spots(tree, web, 0)):
            told = ask()
            again = list(told)
            told.append(5)
            self.assertEqual(ask(), again)
        lays(tree, web)
        self.assertEqual((str(tree), str(web)), texts)


class IsTree(unittest.TestCase):
    def test_trees(self):
        for text in ("1", "1 p0 q0 r0", "2 0a1", "2 1c0", "3 0a1 2b1", "3 1a0 1a2", "5 0a4 3a2 4b1 1c2 p3"):
            self.assertIs(is_tree(read_web(text)), True, text)
        for web in (bare_star(80), path(" ".join(["a>", "b<"] * 40)), turned(bare_star(80))):
            self.assertIs(is_tree(web), True)

    def test_other_webs(self):
        for web in NO_TREES:
            self.assertIs(is_tree(web), False, str(web)[:40])

    def test_as_many_arrows_but_apart(self):
        for text in ("3 0a1 0b1", "3 0a1 1a0", "3 0a0 0a1", "3 0a1 2a2", "4 0a1 1a2 2a0", "4 0a1 2a3 0b1", "2 0a0"):
            web = read_web(text)
            self.assertEqual(len(web.arrows()), web.points() - 1)
            self.assertIs(is_tree(web), False, text)

    def test_by_the_words(self):
        for tree in some_trees(61, 60, 9):
            self.assertTrue(is_tree(tree))
            self.assertTrue(plain_is_tree(tree))
        for web in [*small_webs(), *some_webs(62, 300, 4, 0.07)]:
            self.assertIs(is_tree(web), plain_is_tree(web), str(web))

    def test_one_arrow_more_or_fewer(self):
        for tree in some_trees(63, 20, 7):
            for at in range(len(tree.arrows())):
                arrows = tree.arrows()
                del arrows[at]
                self.assertFalse(is_tree(Web(tree.points(), arrows=arrows)))
            for arrow in itertools.product("a", range(tree.points()), range(tree.points())):
                if arrow not in tree.arrows():
                    self.assertFalse(is_tree(Web(tree.points(), arrows=[*tree.arrows(), arrow])))


class Ties(unittest.TestCase):
    def test_at_each_point_rising(self):
        tree = read_web("5 0a2 2a1 3a2 2b4 p2 q0 q2 r4")
        self.assertEqual(ties(tree, 0), [("a", 0, 2), ("q", 0)])
        self.assertEqual(ties(tree, 1), [("a", 2, 1)])
        self.assertEqual(ties(tree, 2), [("a", 0, 2), ("a", 2, 1), ("a", 3, 2), ("b", 2, 4), ("p", 2), ("q", 2)])
        self.assertEqual(ties(tree, 3), [("a", 3, 2)])
        self.assertEqual(ties(tree, 4), [("b", 2, 4), ("r", 4)])

    def test_of_one_point(self):
        self.assertEqual(ties(Web(1), 0), [])
        self.assertEqual(ties(read_web("1 p0 r0"), 0), [("p", 0), ("r", 0)])

    def test_by_the_words(self):
        for tree in some_trees(64, 40, 12):
            for point in range(tree.points()):
                self.assertEqual(ties(tree, point), sorted(
                    [arrow for arrow in tree.arrows() if point in arrow[1:]]
                    + [mark for mark in tree.marks() if mark[1] == point]))

    def test_numbers_above_nine_rise_as_numbers(self):
        self.assertEqual(ties(bare_star(12), 0), [("a", 0, leaf) for leaf in range(1, 13)])

    def test_refused(self):
        for point in (-1, 2, FAR, -FAR):
            self.assertEqual(refusal(BadPoint, ties, path("a>"), point).number, point)
        for web in NO_TREES:
            for point in (0, -1, 99):
                refusal(NotTree, ties, web, point)


class Laid(unittest.TestCase):
    def agree(self, tree, web):
        told = plain_maps(tree, web)
        self.assertEqual(lay(tree, web), told[0] if told else None, (str(tree), str(web)))
        self.assertEqual(lays(tree, web), len(told), (str(tree), str(web)))
        for point in range(tree.points()):
            self.assertEqual(spots(tree, web, point), sorted({images[point] for images in told}))

    def test_least_as_lists_are_less(self):
        self.assertEqual(lay(read_web("3 0a1 1a2"), read_web("4 0a1 2a3 3a3")), [2, 3, 3])
        # The least image of point 0 leaves the greater one to point 1, though point 2 hangs between them.
        tree, web = read_web("3 0a2 2a1"), read_web("6 0a1 0a2 1a5 2a4 3a4")
        self.assertEqual(lay(tree, web), [0, 4, 2])
        # Not the least one by the points gone along from point 0.
        self.assertEqual(lay(read_web("3 0a2 1a2"), read_web("4 0a3 1a2 1a3")), [0, 0, 3])
        self.assertEqual(lay(read_web("3 2a0 2a1"), read_web("5 3a1 4a0 4a1")), [0, 0, 4])

    def test_all_small_webs(self):
        small = [path(text) for text in ("", "q", "b>", "b<", "b> q", "q b>", "b> b>", "b> b<", "b< b>", "q b< q b<")]
        for tree, web in itertools.product(small, small_webs()):
            self.agree(tree, web)

    def test_many_trees_and_webs(self):
        thin, thick = some_webs(71, 14, 5, 0.12), some_webs(72, 14, 4, 0.5)
        for tree in some_trees(73, 25, 5, density=0.08):
            for web in [*thin, *thick]:
                self.agree(tree, web)

    def test_trees_of_one_colour(self):
        webs = some_webs(74, 12, 4, 0.3)
        for tree in some_trees(75, 25, 6, colours="a", density=0.03):
            for web in webs:
                self.agree(tree, web)

    def test_as_the_searches_over_all_lists(self):
        dice = random.Random(76)
        for web in some_webs(77, 12, 4, 0.4):
            tree = some_tree(dice, 8, "ab", 0.02)
            self.assertLessEqual(ways(tree, web), 300000)
            self.assertEqual(lay(tree, web), first_map(tree, web))

    def test_a_web_without_points(self):
        for tree in (Web(1), read_web("1 p0"), path("a>"), bare_star(80)):
            self.assertIsNone(lay(tree, Web(0)))
            self.assertEqual(lays(tree, Web(0)), 0)
            for point in range(tree.points()):
                self.assertEqual(spots(tree, Web(0), point), [])

    def test_a_bare_point(self):
        self.assertEqual(lay(Web(1), Web(81)), [0])
        self.assertEqual(lays(Web(1), Web(81)), 81)
        self.assertEqual(spots(Web(1), Web(81), 0), list(range(81)))

    def test_refused(self):
        for point in (-1, 2, FAR, -FAR):
            self.assertEqual(refusal(BadPoint, spots, path("a>"), Web(0), point).number, point)
            self.assertEqual(refusal(BadPoint, spots, path("a>"), full_web(3), point).number, point)
        for web in NO_TREES:
            refusal(NotTree, lay, web, Web(0))
            refusal(NotTree, lays, web, full_web(2))
            for point in (0, -1, 99):
                refusal(NotTree, spots, web, full_web(2), point)


class Greatest(unittest.TestCase):
    """Many points, where going through all lists would never end."""

    def test_a_long_path_in_a_ring(self):
        for words in (["a>"] * 80, ["a<"] * 80, ["a>", "a<"] * 40):
            tree, ring = path(" ".join(words)), bare_ring(81)
            images = [0]
            for word in words:
                images.append((images[-1] + (1 if word == "a>" else -1)) % 81)
            self.assertEqual(lay(tree, ring), images)
            self.assertEqual(lays(tree, ring), 81)
            for point in (0, 40, 80):
                self.assertEqual(spots(tree, ring, point), list(range(81)))

    def test_a_long_path_in_itself_and_one_too_long(self):
        tree = path(" ".join(["a>"] * 80))
        self.assertEqual(lay(tree, tree), list(range(81)))
        self.assertEqual(lays(tree, tree), 1)
        self.assertEqual([spots(tree, tree, point) for point in range(81)], [[point] for point in range(81)])
        self.assertIsNone(lay(tree, path(" ".join(["a>"] * 79))))
        self.assertEqual(lays(tree, path(" ".join(["a>"] * 79))), 0)
        self.assertEqual(spots(tree, path(" ".join(["a>"] * 79)), 40), [])
        shorter = path(" ".join(["a>"] * 70))
        self.assertEqual(lays(shorter, tree), 11)
        self.assertEqual(spots(shorter, tree, 30), list(range(30, 41)))

    def test_in_the_web_with_all(self):
        for tree in (bare_star(80), path(" ".join(["a>", "c<"] * 40)), some_tree(random.Random(81), 81)):
            self.assertEqual(lay(tree, full_web(81)), [0] * 81)
            self.assertEqual(lays(tree, full_web(81)), 81 ** 81)
            self.assertEqual(spots(tree, full_web(81), 80), list(range(81)))

    def test_where_all_goes_but_the_last_mark(self):
        tree = path(" ".join(["a>"] * 80 + ["p"]))
        web = Web(81, arrows=list(itertools.product("a", range(81), range(81))), marks=[("p", 77)])
        self.assertEqual(lay(tree, web), [0] * 80 + [77])
        self.assertEqual(lays(tree, web), 81 ** 80)
        self.assertEqual(spots(tree, web, 80), [77])
        self.assertIsNone(lay(tree, Web(81, arrows=web.arrows(), marks=[("q", 77)])))

    def test_arrows_that_only_fall(self):
        web = Web(81, arrows=[("a", high, low) for high in range(81) for low in range(high)])
        tree = path(" ".join(["a>"] * 40))
        self.assertEqual(lay(tree, web), list(range(40, -1, -1)))
        self.assertEqual(spots(tree, web, 40), list(range(41)))
        self.assertEqual(spots(tree, web, 0), list(range(40, 81)))
        # As many as there are lots of 41 of the 81 points.
        many = 1
        for step in range(41):
            many = many * (81 - step) // (step + 1)
        self.assertEqual(lays(tree, web), many)

    def test_trees_by_chance_in_webs_by_chance(self):
        dice = random.Random(82)
        laid = 0
        for density in (0.008, 0.012, 0.02, 0.05, 0.3):
            web = Web(81, arrows=[arrow for arrow in itertools.product(COLOURS, range(81), range(81))
                                  if dice.random() < density],
                      marks=[mark for mark in itertools.product(MARKS, range(81)) if dice.random() < 0.5])
            for points in (20, 50, 81):
                tree = some_tree(dice, points, density=0.02)
                images = lay(tree, web)
                whole = [spots(tree, web, point) for point in range(points)]
                self.assertEqual(images is None, lays(tree, web) == 0)
                if images is None:
                    self.assertEqual(whole, [[]] * points)
                else:
                    laid += 1
                    self.assertTrue(is_map(tree, web, images))
                    self.assertEqual(images[0], whole[0][0])
                    self.assertTrue(all(image in row for image, row in zip(images, whole)))
        self.assertGreater(laid, 3)

    def test_no_lesser_map_by_one_point_alone(self):
        dice = random.Random(83)
        web = some_webs(84, 1, 5, 0.4)[0]
        web = beside(web, some_webs(85, 2, 5, 0.5)[1])
        for _ in range(10):
            tree = some_tree(dice, 30, density=0.0)
            images = lay(tree, web)
            if images is not None:
                for point in range(30):
                    for lesser in range(images[point]):
                        self.assertFalse(is_map(tree, web, [*images[:point], lesser, *images[point + 1:]]))


if __name__ == "__main__":
    unittest.main()

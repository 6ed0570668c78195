"""Least parts, and webs compared: [20], [21]."""

import inspect
import itertools
import random
import unittest

from samples import bare_ring, full_web, plain_maps, refusal, small_webs, some_webs
from wardweb import least
from wardweb.errors import TooMany
from wardweb.least import compared, is_least, least_part
from wardweb.made import beside, kept, path
from wardweb.maps import alike, ways
from wardweb.webs import Web, read_web


def plain_shrinkings(web):
    """All pairs of rising points and a map that leads each point to one of these, and these to themselves."""
    for images in plain_maps(web, web):
        points = sorted(set(images))
        if all(images[point] == point for point in points):
            yield points, images


class Interface(unittest.TestCase):
    def test_names_of_what_is_handed_in(self):
        told = {"least_part": "(web)", "is_least": "(web)", "compared": "(one, other)"}
        for name, signature in told.items():
            self.assertEqual(str(inspect.signature(getattr(least, name))), signature)
            self.assertEqual(getattr(least, name).__module__, "wardweb.least")

    def test_handed_in_by_name(self):
        self.assertEqual(least_part(web=Web(2)), ([0], [0, 0]))
        self.assertIs(is_least(web=Web(2)), False)
        self.assertEqual(compared(other=Web(1), one=Web(0)), "first")

    def test_told_lists_are_new_and_handed_things_stay(self):
        web = read_web("3 0a1 1a1")
        for at in (0, 1):
            told = least_part(web)[at]
            again = list(told)
            told.append(7)
            self.assertEqual(least_part(web)[at], again)
        self.assertIs(type(least_part(web)), tuple)
        self.assertEqual([type(part) for part in least_part(web)], [list, list])
        self.assertEqual(str(web), "3 0a1 1a1")


class LeastPart(unittest.TestCase):
    def judge(self, web):
        points, images = least_part(web)
        where = str(web)
        shrinkings = list(plain_shrinkings(web))
        self.assertEqual(points, sorted(points), where)
        self.assertIn((points, images), [(sorted(set(images)), images) for _, images in shrinkings], where)
        self.assertEqual(len(points), min(len(some) for some, _ in shrinkings), where)
        part = kept(web, points)
        self.assertEqual([len(some) for some, _ in plain_shrinkings(part)].count(len(points)),
                         len(list(plain_shrinkings(part))), where)
        self.assertIs(is_least(part), True, where)
        self.assertIs(is_least(web), len(points) == web.points(), where)
        self.assertEqual(least_part(part), (list(range(len(points))), list(range(len(points)))))
        self.assertEqual(least_part(web), (points, images))
        return points

    def test_by_hand(self):
        self.assertEqual(least_part(Web(0)), ([], []))
        self.assertEqual(least_part(Web(1)), ([0], [0]))
        self.assertEqual(least_part(read_web("1 0a0 p0")), ([0], [0]))
        self.assertEqual(len(least_part(Web(6))[0]), 1)
        self.assertEqual(len(least_part(full_web(6))[0]), 1)
        self.assertEqual(least_part(path("p a> q")), ([0, 1], [0, 1]))
        # What has a point with all arrows and marks shrinks to a loop.
        self.assertEqual(least_part(read_web("4 0a1 1a2 2a2 3a2 p2")), ([2], [2, 2, 2, 2]))
        self.assertEqual(least_part(read_web("3 0a1 1a2 1b1 2b2 p0 q2")), ([0, 1, 2], [0, 1, 2]))
        # A line goes to and fro; only as far as all arrows lead one way it can't.
        self.assertEqual(self.judge(path("a> a<")), [0, 1])
        self.assertEqual(self.judge(path("a> a> a<")), [0, 1, 2])
        self.assertEqual(self.judge(path("a> a> a>")), [0, 1, 2, 3])
        self.assertEqual(least_part(path("a> a> a<")), ([0, 1, 2], [0, 1, 2, 1]))

    def test_rings(self):
        for points in range(1, 7):
            self.assertEqual(self.judge(bare_ring(points)), list(range(points)))
        self.assertEqual(len(self.judge(beside(bare_ring(2), bare_ring(4)))), 2)
        self.assertEqual(len(self.judge(beside(bare_ring(3), bare_ring(3)))), 3)
        self.assertEqual(len(self.judge(beside(bare_ring(2), bare_ring(3)))), 5)
        # Arrows both ways: even rings shrink to one such pair, odd ones don't.
        both = [Web(points, arrows=bare_ring(points).arrows() + [("a", y, x) for _, x, y in bare_ring(points).arrows()])
                for points in (4, 5, 6)]
        self.assertEqual([len(self.judge(web)) for web in both], [2, 5, 2])

    def test_by_the_words(self):
        for web in [*small_webs(), *some_webs(501, 60, 4, 0.15), *some_webs(502, 60, 4, 0.4),
                    *some_webs(503, 40, 5, 0.06), *some_webs(504, 20, 5, 0.8)]:
            self.judge(web)

    def test_numbered_anew(self):
        dice = random.Random(505)
        for web in [*some_webs(506, 60, 6, 0.08), *some_webs(507, 30, 6, 0.3), path("a> a> a< a< a>")]:
            order = list(range(web.points()))
            dice.shuffle(order)
            other = kept(web, order)
            parts = [kept(one, least_part(one)[0]) for one in (web, other)]
            self.assertIsNotNone(alike(*parts), str(web))

    def test_is_least(self):
        for text, told in (("0", True), ("1", True), ("2", False), ("2 0a1", True), ("2 0a1 1a1", False),
                           ("3 0a1 0a2", False), ("3 0a1 0b2", True), ("2 p0 q1", True), ("2 p0 p1 q1", False)):
            self.assertIs(is_least(read_web(text)), told, text)

    def test_bound(self):
        for points in (6, 5):
            for web in (Web(points), full_web(points), bare_ring(points)):
                self.assertLessEqual(ways(web, web), 300000)
                least_part(web)
                is_least(web)
        for points in (7, 8, 20, 81):
            for web in (Web(points), full_web(points), bare_ring(points)):
                self.assertEqual(refusal(TooMany, least_part, web).bound, 300000)
                self.assertEqual(refusal(TooMany, is_least, web).bound, 300000)


class Compared(unittest.TestCase):
    def test_by_hand(self):
        self.assertEqual(compared(path("a>"), path("a> a<")), "both")
        self.assertEqual(compared(path("a>"), path("a> a>")), "first")
        self.assertEqual(compared(path("a> a>"), path("a>")), "second")
        self.assertEqual(compared(path("a>"), path("b>")), "none")
        self.assertEqual(compared(Web(0), Web(0)), "both")
        self.assertEqual(compared(Web(0), Web(1)), "first")
        self.assertEqual(compared(Web(3), Web(0)), "second")
        self.assertEqual(compared(bare_ring(2), bare_ring(3)), "none")

    def test_by_the_words(self):
        words = {(True, True): "both", (True, False): "first", (False, True): "second", (False, False): "none"}
        webs = [*some_webs(511, 12, 3, 0.15), *some_webs(512, 12, 3, 0.4), *small_webs()[:20]]
        seen = set()
        for one, other in itertools.product(webs, webs):
            told = compared(one, other)
            self.assertEqual(told, words[(len(plain_maps(one, other)) > 0, len(plain_maps(other, one)) > 0)])
            seen.add(told)
        self.assertEqual(seen, set(words.values()))

    def test_bound(self):
        # 2 to the power of 18 is within, of 19 beyond; the other way there are few.
        self.assertEqual(compared(Web(18), Web(2)), "both")
        self.assertEqual(compared(Web(2), Web(18)), "both")
        self.assertEqual(refusal(TooMany, compared, Web(19), Web(2)).bound, 300000)
        self.assertEqual(refusal(TooMany, compared, Web(2), Web(19)).bound, 300000)
        # Though it doesn't go in there, the ways back are too many.
        self.assertEqual(refusal(TooMany, compared, path("a>"), Web(19)).bound, 300000)
        self.assertEqual(refusal(TooMany, compared, Web(19), path("a>")).bound, 300000)
        self.assertEqual(refusal(TooMany, compared, Web(81), Web(81)).bound, 300000)
        self.assertEqual(compared(Web(1), full_web(81)), "first")
        self.assertEqual(compared(full_web(81), full_web(1)), "both")


if __name__ == "__main__":
    unittest.main()

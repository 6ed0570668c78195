"""Maps: judged, searched, counted and told; likeness; one list behind the other."""

import inspect
import itertools
import random
import unittest

from wardweb import maps
from wardweb.errors import BadNumber, BadPoint, TooMany
from wardweb.maps import MOST_ALIKE, MOST_TOLD, MOST_WAYS, all_maps, alike, count_maps, first_map, is_map, led, ways
from wardweb.webs import COLOURS, MARKS, Web, read_web

FAR = 10 ** 30 - 1


def plain_is_map(one, other, images):
    """What [5] says, word for word, of a list of the right length with points of the other."""
    arrows = set(other.arrows())
    marks = set(other.marks())
    return (all((colour, images[start], images[end]) in arrows for colour, start, end in one.arrows())
            and all((mark, images[point]) in marks for mark, point in one.marks()))


def plain_maps(one, other):
    lists = itertools.product(range(other.points()), repeat=one.points())
    return [list(images) for images in lists if plain_is_map(one, other, images)]


def numbered_anew(web, images):
    arrows = [(colour, images[start], images[end]) for colour, start, end in web.arrows()]
    return Web(web.points(), arrows=arrows, marks=[(mark, images[point]) for mark, point in web.marks()])


def plain_alike(one, other):
    for images in itertools.permutations(range(one.points())):
        if numbered_anew(one, images) == other:
            return list(images)
    return None


def some_webs(seed, many, most_points, density):
    """Webs of several sizes, the same ones in each run."""
    dice = random.Random(seed)
    made = []
    for _ in range(many):
        points = dice.randint(0, most_points)
        arrows = [arrow for arrow in itertools.product(COLOURS, range(points), range(points))
                  if dice.random() < density]
        marks = [mark for mark in itertools.product(MARKS, range(points)) if dice.random() < density]
        made.append(Web(points, arrows=arrows, marks=marks))
    return made


def small_webs():
    """All webs of at most two points with arrows and marks of one kind."""
    made = []
    for points in range(3):
        arrows = list(itertools.product("b", range(points), range(points)))
        things = arrows + list(itertools.product("q", range(points)))
        for size in range(len(things) + 1):
            for some in itertools.combinations(things, size):
                made.append(Web(points, arrows=[tie for tie in some if len(tie) == 3],
                                marks=[tie for tie in some if len(tie) == 2]))
    return made


class Interface(unittest.TestCase):
    def test_constants(self):
        self.assertEqual((MOST_WAYS, MOST_TOLD, MOST_ALIKE), (300000, 5000, 7))

    def test_names_of_what_is_handed_in(self):
        told = {"is_map": "(one, other, images)", "ways": "(one, other)", "all_maps": "(one, other)",
                "first_map": "(one, other, *, most=300000)", "count_maps": "(one, other, *, most=300000)",
                "alike": "(one, other)", "led": "(first, second)"}
        for name, signature in told.items():
            self.assertEqual(str(inspect.signature(getattr(maps, name))), signature)
            self.assertEqual(getattr(maps, name).__module__, "wardweb.maps")

    def test_handed_in_by_name(self):
        one, other = read_web("1 p0"), read_web("2 p1")
        self.assertTrue(is_map(images=[1], other=other, one=one))
        self.assertEqual(ways(other=other, one=one), 2)
        self.assertEqual(first_map(most=2, other=other, one=one), [1])
        self.assertEqual(count_maps(other=other, most=2, one=one), 1)
        self.assertEqual(all_maps(other=other, one=one), [[1]])
        self.assertIsNone(alike(other=other, one=one))
        self.assertEqual(led(second=[5, 6], first=[1]), [6])

    def test_most_has_no_place(self):
        for search in (first_map, count_maps):
            with self.assertRaises(TypeError):
                search(Web(1), Web(1), 5)


class Judged(unittest.TestCase):
    def test_arrows_and_marks_are_kept(self):
        one = read_web("2 0a1 p1")
        other = read_web("3 1a2 2a0 2b1 p0 p1")
        self.assertIs(is_map(one, other, [2, 0]), True)
        self.assertIs(is_map(one, other, (2, 0)), True)
        self.assertIs(is_map(one, other, [1, 2]), False)
        self.assertIs(is_map(one, other, [2, 1]), False)
        self.assertIs(is_map(one, other, [0, 2]), False)

    def test_arrows_the_other_way_do_not_count(self):
        self.assertFalse(is_map(read_web("2 0a1"), read_web("2 0a1"), [1, 0]))

    def test_an_arrow_of_a_point_to_itself(self):
        self.assertFalse(is_map(read_web("1 0a0"), read_web("2 0a1 1b1"), [1]))
        self.assertTrue(is_map(read_web("1 0a0"), read_web("2 0a1 1a1"), [1]))
        self.assertTrue(is_map(read_web("2 0a1 1a0"), read_web("2 1a1"), [1, 1]))

    def test_too_short_and_too_long(self):
        one, other = Web(2), Web(3)
        for images in ([], [0], [0, 1, 2], (0,), [0] * 20000):
            self.assertIs(is_map(one, other, images), False)
        self.assertIs(is_map(Web(0), other, [0]), False)

    def test_numbers_that_are_no_points(self):
        one, other = read_web("2 0a1 p0"), read_web("2 0a0 0a1 1a0 1a1 p0 p1")
        for number in (-1, -2, 2, 3, FAR, -FAR):
            self.assertIs(is_map(one, other, [number, 0]), False)
            self.assertIs(is_map(one, other, [0, number]), False)
            self.assertIs(is_map(Web(2), other, [0, number]), False)

    def test_without_points(self):
        self.assertIs(is_map(Web(0), Web(0), []), True)
        self.assertIs(is_map(Web(0), Web(3), ()), True)
        self.assertIs(is_map(Web(1), Web(0), [0]), False)
        self.assertIs(is_map(Web(1), Web(0), []), False)

    def test_all_lists_between_small_webs(self):
        for one, other in itertools.product(small_webs(), repeat=2):
            for images in itertools.product(range(-1, other.points() + 1), repeat=one.points()):
                inside = all(0 <= image < other.points() for image in images)
                self.assertEqual(is_map(one, other, list(images)), inside and plain_is_map(one, other, images))

    def test_the_greatest_webs(self):
        arrows = list(itertools.product(COLOURS, range(81), range(81)))
        marks = list(itertools.product(MARKS, range(81)))
        great = Web(81, arrows=arrows, marks=marks)
        self.assertTrue(is_map(great, great, list(range(80, -1, -1))))
        self.assertFalse(is_map(great, Web(81, arrows=arrows[:-1], marks=marks), list(range(81))))

    def test_images_are_not_changed(self):
        images = [1, 0]
        is_map(read_web("2 0a1"), read_web("2 1a0"), images)
        self.assertEqual(images, [1, 0])


class Ways(unittest.TestCase):
    def test_ways(self):
        for one, other in itertools.product(range(6), repeat=2):
            self.assertEqual(ways(Web(one), Web(other)), other ** one)

    def test_without_points(self):
        self.assertEqual(ways(Web(0), Web(0)), 1)
        self.assertEqual(ways(Web(0), Web(81)), 1)
        self.assertEqual(ways(Web(1), Web(0)), 0)
        self.assertEqual(ways(Web(81), Web(0)), 0)

    def test_the_greatest(self):
        self.assertEqual(ways(Web(81), Web(81)), 81 ** 81)
        self.assertEqual(ways(Web(81), Web(1)), 1)

    def test_arrows_and_marks_do_not_count(self):
        self.assertEqual(ways(read_web("2 0a1 p0"), read_web("3 0b0")), 9)


class Searched(unittest.TestCase):
    def agree(self, one, other):
        told = plain_maps(one, other)
        self.assertEqual(all_maps(one, other), told, (str(one), str(other)))
        self.assertEqual(count_maps(one, other), len(told))
        self.assertEqual(first_map(one, other), told[0] if told else None)

    def test_small_webs(self):
        for one, other in itertools.product(small_webs(), repeat=2):
            self.agree(one, other)

    def test_thicker_and_thinner_webs(self):
        thin = some_webs(1, 12, 5, 0.08)
        thick = some_webs(2, 12, 4, 0.6)
        for one, other in itertools.product(thin, thick):
            self.agree(one, other)
        for one, other in itertools.product(thin, repeat=2):
            self.agree(one, other)
        for one, other in itertools.product(thick, repeat=2):
            self.agree(one, other)

    def test_the_least_and_the_rising(self):
        self.assertEqual(first_map(Web(2), Web(3)), [0, 0])
        self.assertEqual(all_maps(Web(2), Web(2)), [[0, 0], [0, 1], [1, 0], [1, 1]])
        one, other = read_web("3 0a1 2a1"), read_web("4 1a3 2a0 3a2")
        self.assertEqual(first_map(one, other), [1, 3, 1])
        self.assertEqual(all_maps(one, other), [[1, 3, 1], [2, 0, 2], [3, 2, 3]])

    def test_the_first_value_may_not_go_on(self):
        one, other = read_web("3 0a1 1a2"), read_web("4 0a1 2a3 3a3")
        self.assertEqual(first_map(one, other), [2, 3, 3])
        self.assertEqual(count_maps(one, other), 2)

    def test_no_map(self):
        one, other = read_web("2 0a1 p1"), read_web("3 0a1 p2")
        self.assertIsNone(first_map(one, other))
        self.assertEqual(count_maps(one, other), 0)
        self.assertEqual(all_maps(one, other), [])

    def test_without_points(self):
        for other in (Web(0), Web(1), read_web("2 0a1")):
            self.assertEqual(first_map(Web(0), other), [])
            self.assertEqual(count_maps(Web(0), other), 1)
            self.assertEqual(all_maps(Web(0), other), [[]])
        for one in (Web(1), Web(81)):
            self.assertIsNone(first_map(one, Web(0)))
            self.assertEqual(count_maps(one, Web(0)), 0)
            self.assertEqual(all_maps(one, Web(0)), [])

    def test_many_points_into_one(self):
        arrows = list(itertools.product(COLOURS, range(81), range(81)))
        great = Web(81, arrows=arrows)
        one = read_web("1 0a0 0b0 0c0")
        self.assertEqual(first_map(great, one, most=1), [0] * 81)
        self.assertEqual(count_maps(great, one), 1)
        self.assertEqual(all_maps(great, one), [[0] * 81])
        self.assertIsNone(first_map(great, Web(1)))

    def test_told_lists_are_new(self):
        one, other = read_web("2 0a1"), read_web("2 0a1 1a0")
        first_map(one, other).append(5)
        self.assertEqual(first_map(one, other), [0, 1])
        told = all_maps(one, other)
        told[0].append(5)
        told.append([])
        self.assertEqual(all_maps(one, other), [[0, 1], [1, 0]])
        first_map(Web(0), Web(0)).append(5)
        all_maps(Web(0), Web(0))[0].append(5)
        self.assertEqual(first_map(Web(0), Web(0)), [])
        self.assertEqual(all_maps(Web(0), Web(0)), [[]])


class Bounds(unittest.TestCase):
    def test_most_is_from_1_to_the_bound(self):
        for search in (first_map, count_maps):
            for most in (0, -1, 300001, FAR, -FAR):
                with self.assertRaises(BadNumber) as caught:
                    search(Web(1), Web(1), most=most)
                self.assertEqual(caught.exception.number, most)
            search(Web(1), Web(1), most=1)
            search(Web(1), Web(1), most=300000)

    def test_most_at_the_ways_and_one_below(self):
        one, other = read_web("3 0a1"), read_web("4 0a1")
        self.assertEqual(first_map(one, other, most=64), [0, 1, 0])
        self.assertEqual(count_maps(one, other, most=64), 4)
        for search in (first_map, count_maps):
            with self.assertRaises(TooMany) as caught:
                search(one, other, most=63)
            self.assertEqual(caught.exception.bound, 63)

    def test_no_ways_and_one_way(self):
        self.assertIsNone(first_map(Web(5), Web(0), most=1))
        self.assertEqual(count_maps(Web(0), Web(5), most=1), 1)

    def test_bad_number_ahead_of_too_many(self):
        for search in (first_map, count_maps):
            for most in (0, 300001):
                with self.assertRaises(BadNumber):
                    search(Web(81), Web(81), most=most)

    def test_the_bound_of_ways(self):
        self.assertEqual(first_map(Web(3), Web(66)), [0, 0, 0])
        self.assertEqual(count_maps(Web(3), Web(66)), 66 ** 3)
        self.assertEqual(count_maps(Web(18), Web(2)), 2 ** 18)
        for one, other in ((3, 67), (19, 2), (81, 81)):
            for search in (first_map, count_maps):
                with self.assertRaises(TooMany) as caught:
                    search(Web(one), Web(other))
                self.assertEqual(caught.exception.bound, 300000)

    def test_the_bound_of_told_maps(self):
        self.assertEqual(len(all_maps(Web(2), Web(70))), 4900)
        self.assertEqual(len(all_maps(Web(12), Web(2))), 4096)
        for one, other in ((2, 71), (13, 2), (81, 81)):
            with self.assertRaises(TooMany) as caught:
                all_maps(Web(one), Web(other))
            self.assertEqual(caught.exception.bound, 5000)

    def test_ways_count_and_not_maps(self):
        with self.assertRaises(TooMany):
            all_maps(read_web("13 p0"), Web(2))
        with self.assertRaises(TooMany):
            first_map(read_web("19 p0"), Web(2))

    def test_a_long_search(self):
        one = Web(18, arrows=[("a", 0, 17)])
        other = read_web("2 0b1")
        self.assertIsNone(first_map(one, other))
        self.assertEqual(count_maps(one, other), 0)


class Likeness(unittest.TestCase):
    def test_there_and_back(self):
        one = read_web("3 0a1 1b2 p0")
        other = read_web("3 2a0 0b1 p2")
        self.assertEqual(alike(one, other), [2, 0, 1])
        self.assertEqual(alike(other, one), [1, 2, 0])
        self.assertEqual(numbered_anew(one, alike(one, other)), other)

    def test_the_least(self):
        self.assertEqual(alike(Web(3), Web(3)), [0, 1, 2])
        ring = read_web("3 0a1 1a2 2a0")
        self.assertEqual(alike(ring, ring), [0, 1, 2])
        self.assertEqual(alike(ring, read_web("3 0a2 1a0 2a1")), [0, 2, 1])

    def test_a_map_is_not_enough(self):
        self.assertIsNone(alike(Web(2), read_web("2 0a1")))
        self.assertIsNone(alike(read_web("2 0a1"), Web(2)))
        self.assertIsNone(alike(Web(2), read_web("2 p0")))
        self.assertIsNone(alike(read_web("2 p0"), Web(2)))
        self.assertIsNone(alike(read_web("2 0a0"), read_web("2 0a1")))
        self.assertIsNone(alike(read_web("2 0a0"), read_web("2 0b0")))
        self.assertIsNone(alike(read_web("2 p0"), read_web("2 q0")))
        self.assertIsNone(alike(read_web("2 0a1 p0"), read_web("2 0a1 p1")))
        self.assertIsNone(alike(read_web("3 0a1 1a2"), read_web("3 0a1 0a2")))
        self.assertIsNone(alike(read_web("2 0a1 0b0"), read_web("2 0a0 0a1")))

    def test_unlike_sizes(self):
        for one, other in ((0, 1), (1, 0), (2, 3), (7, 8), (8, 7), (80, 81)):
            self.assertIsNone(alike(Web(one), Web(other)))

    def test_without_points(self):
        self.assertEqual(alike(Web(0), Web(0)), [])

    def test_at_the_bound_and_one_beyond(self):
        path = [("a", point, point + 1) for point in range(6)]
        one = Web(7, arrows=path)
        self.assertEqual(alike(one, numbered_anew(one, [6, 5, 4, 3, 2, 1, 0])), [6, 5, 4, 3, 2, 1, 0])
        self.assertEqual(alike(Web(7), Web(7)), [0, 1, 2, 3, 4, 5, 6])
        self.assertIsNone(alike(one, Web(7)))
        for points in (8, 81):
            for other in (Web(points), Web(points, marks=[("p", 0)])):
                with self.assertRaises(TooMany) as caught:
                    alike(Web(points), other)
                self.assertEqual(caught.exception.bound, 7)

    def test_against_all_numberings(self):
        for one, other in itertools.product(small_webs(), repeat=2):
            if one.points() == other.points():
                self.assertEqual(alike(one, other), plain_alike(one, other))
        dice = random.Random(3)
        for web in some_webs(4, 20, 5, 0.3) + some_webs(5, 20, 4, 0.08):
            images = list(range(web.points()))
            dice.shuffle(images)
            other = numbered_anew(web, images)
            self.assertEqual(alike(web, other), plain_alike(web, other))
            self.assertIsNotNone(alike(other, web))


class Led(unittest.TestCase):
    def test_the_one_behind_the_other(self):
        self.assertEqual(led([2, 0, 0], [7, 8, 9]), [9, 7, 7])
        self.assertEqual(led((1, 0), (5, 6)), [6, 5])
        self.assertEqual(led([], [1, 2]), [])
        self.assertEqual(led([], []), [])
        self.assertEqual(led([1], ["x", ("a", 0, 1)]), [("a", 0, 1)])

    def test_maps_behind_maps_are_maps(self):
        one, other, third = read_web("2 0a1"), read_web("3 1a2"), read_web("2 1a1")
        there, further = first_map(one, other), first_map(other, third)
        self.assertEqual(led(there, further), [1, 1])
        self.assertTrue(is_map(one, third, led(there, further)))

    def test_the_first_number_that_is_no_place(self):
        for number in (-1, -3, 3, 4, FAR, -FAR):
            for first in ([number], [0, number], [2, number, -9], [1, 0, number, 99]):
                with self.assertRaises(BadPoint) as caught:
                    led(first, [7, 8, 9])
                self.assertEqual(caught.exception.number, number)
        with self.assertRaises(BadPoint) as caught:
            led([0], [])
        self.assertEqual(caught.exception.number, 0)

    def test_copies(self):
        first, second = [0, 0], [[1], [2]]
        told = led(first, second)
        self.assertEqual((first, second), ([0, 0], [[1], [2]]))
        told[0].append(5)
        self.assertEqual(told, [[1, 5], [1]])
        self.assertEqual(second, [[1], [2]])
        second[0].append(6)
        self.assertEqual(told, [[1, 5], [1]])


if __name__ == "__main__":
    unittest.main()

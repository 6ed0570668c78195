"""Maps: judged, searched, counted and told; likeness; one list behind the other."""

import inspect
import itertools
import random
import unittest

from samples import FAR, full_web, plain_is_map, plain_maps, refusal, small_webs, some_webs
from wardweb import maps
from wardweb.errors import BadNumber, BadPoint, TooMany
from wardweb.made import beside, lots, path, power, times
from wardweb.maps import MOST_ALIKE, MOST_TOLD, MOST_WAYS, all_maps, alike, count_maps, first_map, is_map, led, ways
from wardweb.wards import ward
from wardweb.webs import COLOURS, Web, read_web


def numbered_anew(web, images):
    arrows = [(colour, images[start], images[end]) for colour, start, end in web.arrows()]
    return Web(web.points(), arrows=arrows, marks=[(mark, images[point]) for mark, point in web.marks()])


def plain_alike(one, other):
    for images in itertools.permutations(range(one.points())):
        if numbered_anew(one, images) == other:
            return list(images)
    return None


class Interface(unittest.TestCase):
    def test_constants(self):
        self.assertEqual((MOST_WAYS, MOST_TOLD, MOST_ALIKE), (300000, 5000, 7))

    def test_names_of_what_is_handed_in(self):
        told = {"is_map": "(one, other, images)", "ways": "(one, other)", "all_maps": "(one, other)",
                "first_map": "(one, other, *, most=300000)", "count_maps": "(one, other, *, most=300000)",
                "alike": "(one, other)", "led": "(first, second)"}
        for name, signature in told.items():
            self.assertEqual(str(inspect.signature(getattr(maps, name))), signature)
            self.assertEqual(getattr(maps, name).__module__, "wardweb.maps")

    def test_handed_in_by_name(self):
        one, other = read_web("1 p0"), read_web("2 p1")
        self.assertTrue(is_map(images=[1], other=other, one=one))
        self.assertEqual(ways(other=other, one=one), 2)
        self.assertEqual(first_map(most=2, other=other, one=one), [1])
        self.assertEqual(count_maps(other=other, most=2, one=one), 1)
        self.assertEqual(all_maps(other=other, one=one), [[1]])
        self.assertIsNone(alike(other=other, one=one))
        self.assertEqual(led(second=[5, 6], first=[1]), [6])

    def test_most_has_no_place(self):
        for search in (first_map, count_maps):
            with self.assertRaises(TypeError):
                search(Web(1), Web(1), 5)


class Judged(unittest.TestCase):
    def test_arrows_and_marks_are_kept(self):
        one = read_web("2 0a1 p1")
        other = read_web("3 1a2 2a0 2b1 p0 p1")
        self.assertIs(is_map(one, other, [2, 0]), True)
        self.assertIs(is_map(one, other, (2, 0)), True)
        self.assertIs(is_map(one, other, [1, 2]), False)
        self.assertIs(is_map(one, other, [2, 1]), False)
        self.assertIs(is_map(one, other, [0, 2]), False)

    def test_arrows_the_other_way_do_not_count(self):
        self.assertFalse(is_map(read_web("2 0a1"), read_web("2 0a1"), [1, 0]))

    def test_an_arrow_of_a_point_to_itself(self):
        self.assertFalse(is_map(read_web("1 0a0"), read_web("2 0a1 1b1"), [1]))
        self.assertTrue(is_map(read_web("1 0a0"), read_web("2 0a1 1a1"), [1]))
        self.assertTrue(is_map(read_web("2 0a1 1a0"), read_web("2 1a1"), [1, 1]))

    def test_too_short_and_too_long(self):
        one, other = Web(2), Web(3)
        for images in ([], [0], [0, 1, 2], (0,), [0] * 20000):
            self.assertIs(is_map(one, other, images), False)
        self.assertIs(is_map(Web(0), other, [0]), False)

    def test_numbers_that_are_no_points(self):
        one, other = read_web("2 0a1 p0"), read_web("2 0a0 0a1 1a0 1a1 p0 p1")
        for number in (-1, -2, 2, 3, FAR, -FAR):
            self.assertIs(is_map(one, other, [number, 0]), False)
            self.assertIs(is_map(one, other, [0, number]), False)
            self.assertIs(is_map(Web(2), other, [0, number]), False)

    def test_without_points(self):
        self.assertIs(is_map(Web(0), Web(0), []), True)
        self.assertIs(is_map(Web(0), Web(3), ()), True)
        self.assertIs(is_map(Web(1), Web(0), [0]), False)
        self.assertIs(is_map(Web(1), Web(0), []), False)

    def test_all_lists_between_small_webs(self):
        for one, other in itertools.product(small_webs(), repeat=2):
            for images in itertools.product(range(-1, other.points() + 1), repeat=one.points()):
                inside = all(0 <= image < other.points() for image in images)
                self.assertEqual(is_map(one, other, list(images)), inside and plain_is_map(one, other, images))

    def test_the_greatest_webs(self):
        great = full_web(81)
        lacking = Web(81, arrows=great.arrows()[:-1], marks=great.marks())
        self.assertTrue(is_map(great, great, list(range(80, -1, -1))))
        self.assertFalse(is_map(great, lacking, list(range(81))))

    def test_images_are_not_changed(self):
        images = [1, 0]
        is_map(read_web("2 0a1"), read_web("2 1a0"), images)
        self.assertEqual(images, [1, 0])


class Ways(unittest.TestCase):
    def test_ways(self):
        for one, other in itertools.product(range(6), repeat=2):
            self.assertEqual(ways(Web(one), Web(other)), other ** one)

    def test_without_points(self):
        self.assertEqual(ways(Web(0), Web(0)), 1)
        self.assertEqual(ways(Web(0), Web(81)), 1)
        self.assertEqual(ways(Web(1), Web(0)), 0)
        self.assertEqual(ways(Web(81), Web(0)), 0)

    def test_the_greatest(self):
        self.assertEqual(ways(Web(81), Web(81)), 81 ** 81)
        self.assertEqual(ways(Web(81), Web(1)), 1)

    def test_arrows_and_marks_do_not_count(self):
        self.assertEqual(ways(read_web("2 0a1 p0"), read_web("3 0b0")), 9)


class Searched(unittest.TestCase):
    def agree(self, one, other):
        told = plain_maps(one, other)
        self.assertEqual(all_maps(one, other), told, (str(one), str(other)))
        self.assertEqual(count_maps(one, other), len(told))
        self.assertEqual(first_map(one, other), told[0] if told else None)

    def test_small_webs(self):
        for one, other in itertools.product(small_webs(), repeat=2):
            self.agree(one, other)

    def test_thicker_and_thinner_webs(self):
        thin = some_webs(1, 12, 5, 0.08)
        thick = some_webs(2, 12, 4, 0.6)
        for one, other in itertools.product(thin, thick):
            self.agree(one, other)
        for one, other in itertools.product(thin, repeat=2):
            self.agree(one, other)
        for one, other in itertools.product(thick, repeat=2):
            self.agree(one, other)

    def test_the_least_and_the_rising(self):
        self.assertEqual(first_map(Web(2), Web(3)), [0, 0])
        self.assertEqual(all_maps(Web(2), Web(2)), [[0, 0], [0, 1], [1, 0], [1, 1]])
        one, other = read_web("3 0a1 2a1"), read_web("4 1a3 2a0 3a2")
        self.assertEqual(first_map(one, other), [1, 3, 1])
        self.assertEqual(all_maps(one, other), [[1, 3, 1], [2, 0, 2], [3, 2, 3]])

    def test_the_first_value_may_not_go_on(self):
        one, other = read_web("3 0a1 1a2"), read_web("4 0a1 2a3 3a3")
        self.assertEqual(first_map(one, other), [2, 3, 3])
        self.assertEqual(count_maps(one, other), 2)

    def test_no_map(self):
        one, other = read_web("2 0a1 p1"), read_web("3 0a1 p2")
        self.assertIsNone(first_map(one, other))
        self.assertEqual(count_maps(one, other), 0)
        self.assertEqual(all_maps(one, other), [])

    def test_without_points(self):
        for other in (Web(0), Web(1), read_web("2 0a1")):
            self.assertEqual(first_map(Web(0), other), [])
            self.assertEqual(count_maps(Web(0), other), 1)
            self.assertEqual(all_maps(Web(0), other), [[]])
        for one in (Web(1), Web(81)):
            self.assertIsNone(first_map(one, Web(0)))
            self.assertEqual(count_maps(one, Web(0)), 0)
            self.assertEqual(all_maps(one, Web(0)), [])

    def test_many_points_into_one(self):
        arrows = list(itertools.product(COLOURS, range(81), range(81)))
        great = Web(81, arrows=arrows)
        one = read_web("1 0a0 0b0 0c0")
        self.assertEqual(first_map(great, one, most=1), [0] * 81)
        self.assertEqual(count_maps(great, one), 1)
        self.assertEqual(all_maps(great, one), [[0] * 81])
        self.assertIsNone(first_map(great, Web(1)))

    def test_told_lists_are_new(self):
        one, other = read_web("2 0a1"), read_web("2 0a1 1a0")
        first_map(one, other).append(5)
        self.assertEqual(first_map(one, other), [0, 1])
        told = all_maps(one, other)
        told[0].append(5)
        told.append([])
        self.assertEqual(all_maps(one, other), [[0, 1], [1, 0]])
        first_map(Web(0), Web(0)).append(5)
        all_maps(Web(0), Web(0))[0].append(5)
        self.assertEqual(first_map(Web(0), Web(0)), [])
        self.assertEqual(all_maps(Web(0), Web(0)), [[]])


class Bounds(unittest.TestCase):
    def test_most_is_from_1_to_the_bound(self):
        for search in (first_map, count_maps):
            for most in (0, -1, 300001, FAR, -FAR):
                with self.assertRaises(BadNumber) as caught:
                    search(Web(1), Web(1), most=most)
                self.assertEqual(caught.exception.number, most)
            search(Web(1), Web(1), most=1)
            search(Web(1), Web(1), most=300000)

    def test_most_at_the_ways_and_one_below(self):
        one, other = read_web("3 0a1"), read_web("4 0a1")
        self.assertEqual(first_map(one, other, most=64), [0, 1, 0])
        self.assertEqual(count_maps(one, other, most=64), 4)
        for search in (first_map, count_maps):
            with self.assertRaises(TooMany) as caught:
                search(one, other, most=63)
            self.assertEqual(caught.exception.bound, 63)

    def test_no_ways_and_one_way(self):
        self.assertIsNone(first_map(Web(5), Web(0), most=1))
        self.assertEqual(count_maps(Web(0), Web(5), most=1), 1)

    def test_bad_number_ahead_of_too_many(self):
        for search in (first_map, count_maps):
            for most in (0, 300001):
                with self.assertRaises(BadNumber):
                    search(Web(81), Web(81), most=most)

    def test_the_bound_of_ways(self):
        self.assertEqual(first_map(Web(3), Web(66)), [0, 0, 0])
        self.assertEqual(count_maps(Web(3), Web(66)), 66 ** 3)
        self.assertEqual(count_maps(Web(18), Web(2)), 2 ** 18)
        for one, other in ((3, 67), (19, 2), (81, 81)):
            for search in (first_map, count_maps):
                with self.assertRaises(TooMany) as caught:
                    search(Web(one), Web(other))
                self.assertEqual(caught.exception.bound, 300000)

    def test_the_bound_of_told_maps(self):
        self.assertEqual(len(all_maps(Web(2), Web(70))), 4900)
        self.assertEqual(len(all_maps(Web(12), Web(2))), 4096)
        for one, other in ((2, 71), (13, 2), (81, 81)):
            with self.assertRaises(TooMany) as caught:
                all_maps(Web(one), Web(other))
            self.assertEqual(caught.exception.bound, 5000)

    def test_ways_count_and_not_maps(self):
        with self.assertRaises(TooMany):
            all_maps(read_web("13 p0"), Web(2))
        with self.assertRaises(TooMany):
            first_map(read_web("19 p0"), Web(2))

    def test_a_long_search(self):
        one = Web(18, arrows=[("a", 0, 17)])
        other = read_web("2 0b1")
        self.assertIsNone(first_map(one, other))
        self.assertEqual(count_maps(one, other), 0)


class GreaterWebs(unittest.TestCase):
    """[6] with webs that are made of others."""

    def test_ways_of_made_webs(self):
        self.assertEqual(ways(path("a> b<"), power(Web(3), Web(4))), 81 ** 3)
        self.assertEqual(ways(lots(Web(6)), lots(Web(2))), 3 ** 63)
        self.assertEqual(ways(lots(Web(0)), full_web(81)), 1)
        self.assertEqual(ways(full_web(81), ward(Web(1))), 0)
        self.assertEqual(ways(path("a>"), ward(path("a> a> a> a> a> a> a>"))), 64 ** 2)

    def test_bounds_at_the_ways_one_less_none_and_beyond(self):
        pairs = [(path("a>"), times(full_web(9), full_web(9))), (path("a> a>"), ward(path("a> a> a> a> a> a> a>"))),
                 (beside(path("a>"), path("b<")), lots(full_web(4))), (lots(full_web(3)), full_web(3))]
        for one, other in pairs:
            all_ways = other.points() ** one.points()
            self.assertLessEqual(all_ways, MOST_WAYS)
            for search in (first_map, count_maps):
                told = search(one, other)
                for most in (all_ways, all_ways + 1, MOST_WAYS):
                    self.assertEqual(search(one, other, most=most), told)
                for most in (1, all_ways - 1):
                    self.assertEqual(refusal(TooMany, search, one, other, most=most).bound, most)
                for most in (0, -all_ways, MOST_WAYS + 1, FAR):
                    self.assertEqual(refusal(BadNumber, search, one, other, most=most).number, most)

    def test_bad_number_ahead_of_too_many(self):
        great = power(full_web(3), full_web(4))
        for search in (first_map, count_maps):
            for most in (0, -1, MOST_WAYS + 1):
                self.assertEqual(refusal(BadNumber, search, great, great, most=most).number, most)
            self.assertEqual(refusal(TooMany, search, great, great).bound, MOST_WAYS)
            self.assertEqual(refusal(TooMany, search, path("a> a>"), times(Web(1), Web(67))).bound, MOST_WAYS)

    def test_counts_of_greater_webs(self):
        great = times(full_web(9), full_web(9))
        self.assertEqual(count_maps(path("a> p"), great), 81 ** 2)
        # The first choice is the arrow from point 0 at both of its ends; with 32 begin those that are another at 1.
        self.assertEqual(first_map(path("a> b>"), ward(path("a> a> a> a> a> a> a>"))), [0, 32, 0])
        self.assertEqual(count_maps(lots(full_web(4)), full_web(2)), 2 ** 15)

    def test_told_just_within_the_bound_and_beyond(self):
        self.assertEqual(len(all_maps(path("a>"), times(full_web(7), full_web(10)))), 70 ** 2)
        self.assertEqual(len(all_maps(path("a> a>"), full_web(17))), 17 ** 3)
        self.assertEqual(len(all_maps(path("a> a> a>"), times(full_web(2), full_web(4)))), 8 ** 4)
        self.assertEqual(all_maps(path("a>"), ward(path("a>"))), [])
        for one, other in ((path("a>"), full_web(71)), (path("a> a>"), full_web(18)), (path("b<"), Web(71)),
                           (path("a> a> a>"), times(full_web(3), full_web(3))), (Web(81), Web(2))):
            self.assertGreater(ways(one, other), MOST_TOLD)
            self.assertEqual(refusal(TooMany, all_maps, one, other).bound, MOST_TOLD)


class Likeness(unittest.TestCase):
    def test_there_and_back(self):
        one = read_web("3 0a1 1b2 p0")
        other = read_web("3 2a0 0b1 p2")
        self.assertEqual(alike(one, other), [2, 0, 1])
        self.assertEqual(alike(other, one), [1, 2, 0])
        self.assertEqual(numbered_anew(one, alike(one, other)), other)

    def test_the_least(self):
        self.assertEqual(alike(Web(3), Web(3)), [0, 1, 2])
        ring = read_web("3 0a1 1a2 2a0")
        self.assertEqual(alike(ring, ring), [0, 1, 2])
        self.assertEqual(alike(ring, read_web("3 0a2 1a0 2a1")), [0, 2, 1])

    def test_a_map_is_not_enough(self):
        self.assertIsNone(alike(Web(2), read_web("2 0a1")))
        self.assertIsNone(alike(read_web("2 0a1"), Web(2)))
        self.assertIsNone(alike(Web(2), read_web("2 p0")))
        self.assertIsNone(alike(read_web("2 p0"), Web(2)))
        self.assertIsNone(alike(read_web("2 0a0"), read_web("2 0a1")))
        self.assertIsNone(alike(read_web("2 0a0"), read_web("2 0b0")))
        self.assertIsNone(alike(read_web("2 p0"), read_web("2 q0")))
        self.assertIsNone(alike(read_web("2 0a1 p0"), read_web("2 0a1 p1")))
        self.assertIsNone(alike(read_web("3 0a1 1a2"), read_web("3 0a1 0a2")))
        self.assertIsNone(alike(read_web("2 0a1 0b0"), read_web("2 0a0 0a1")))

    def test_unlike_sizes(self):
        for one, other in ((0, 1), (1, 0), (2, 3), (7, 8), (8, 7), (80, 81)):
            self.assertIsNone(alike(Web(one), Web(other)))

    def test_without_points(self):
        self.assertEqual(alike(Web(0), Web(0)), [])

    def test_at_the_bound_and_one_beyond(self):
        path = [("a", point, point + 1) for point in range(6)]
        one = Web(7, arrows=path)
        self.assertEqual(alike(one, numbered_anew(one, [6, 5, 4, 3, 2, 1, 0])), [6, 5, 4, 3, 2, 1, 0])
        self.assertEqual(alike(Web(7), Web(7)), [0, 1, 2, 3, 4, 5, 6])
        self.assertIsNone(alike(one, Web(7)))
        for points in (8, 81):
            for other in (Web(points), Web(points, marks=[("p", 0)])):
                with self.assertRaises(TooMany) as caught:
                    alike(Web(points), other)
                self.assertEqual(caught.exception.bound, 7)

    def test_against_all_numberings(self):
        for one, other in itertools.product(small_webs(), repeat=2):
            if one.points() == other.points():
                self.assertEqual(alike(one, other), plain_alike(one, other))
        dice = random.Random(3)
        for web in some_webs(4, 20, 5, 0.3) + some_webs(5, 20, 4, 0.08):
            images = list(range(web.points()))
            dice.shuffle(images)
            other = numbered_anew(web, images)
            self.assertEqual(alike(web, other), plain_alike(web, other))
            self.assertIsNotNone(alike(other, web))


class Led(unittest.TestCase):
    def test_the_one_behind_the_other(self):
        self.assertEqual(led([2, 0, 0], [7, 8, 9]), [9, 7, 7])
        self.assertEqual(led((1, 0), (5, 6)), [6, 5])
        self.assertEqual(led([], [1, 2]), [])
        self.assertEqual(led([], []), [])
        self.assertEqual(led([1], ["x", ("a", 0, 1)]), [("a", 0, 1)])

    def test_maps_behind_maps_are_maps(self):
        one, other, third = read_web("2 0a1"), read_web("3 1a2"), read_web("2 1a1")
        there, further = first_map(one, other), first_map(other, third)
        self.assertEqual(led(there, further), [1, 1])
        self.assertTrue(is_map(one, third, led(there, further)))

    def test_the_first_number_that_is_no_place(self):
        for number in (-1, -3, 3, 4, FAR, -FAR):
            for first in ([number], [0, number], [2, number, -9], [1, 0, number, 99]):
                with self.assertRaises(BadPoint) as caught:
                    led(first, [7, 8, 9])
                self.assertEqual(caught.exception.number, number)
        with self.assertRaises(BadPoint) as caught:
            led([0], [])
        self.assertEqual(caught.exception.number, 0)

    def test_copies(self):
        first, second = [0, 0], [[1], [2]]
        told = led(first, second)
        self.assertEqual((first, second), ([0, 0], [[1], [2]]))
        told[0].append(5)
        self.assertEqual(told, [[1, 5], [1]])
        self.assertEqual(second, [[1], [2]])
        second[0].append(6)
        self.assertEqual(told, [[1, 5], [1]])


if __name__ == "__main__":
    unittest.main()

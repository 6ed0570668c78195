"""Webs made of webs, and paths: [7], [8], [9]."""

import inspect
import itertools
import unittest

from samples import FAR, full_web, refusal, small_webs, some_webs
from wardweb import made
from wardweb.errors import BadPoint, BadText, TooMany
from wardweb.made import beside, folded, kept, lots, path, power, times, turned
from wardweb.maps import all_maps, count_maps
from wardweb.webs import COLOURS, MARKS, Web, read_web

NONE = Web(0)
SAMPLE = read_web("3 0a1 1a2 0b0 2b1 p2 q0 q1")


def web_of(points, has_arrow, has_mark):
    """A web by two questions asked of each arrow and mark."""
    arrows = [arrow for arrow in itertools.product(COLOURS, range(points), range(points)) if has_arrow(*arrow)]
    marks = [mark for mark in itertools.product(MARKS, range(points)) if has_mark(*mark)]
    return Web(points, arrows=arrows, marks=marks)


def plain_times(one, other):
    pairs = sorted(itertools.product(range(one.points()), range(other.points())))
    return web_of(
        len(pairs),
        lambda colour, x, y: (colour, pairs[x][0], pairs[y][0]) in one.arrows()
        and (colour, pairs[x][1], pairs[y][1]) in other.arrows(),
        lambda mark, x: (mark, pairs[x][0]) in one.marks() and (mark, pairs[x][1]) in other.marks())


def plain_power(base, by):
    rows = sorted([list(row) for row in itertools.product(range(base.points()), repeat=by.points())])
    return web_of(
        len(rows),
        lambda colour, first, second: all((colour, rows[first][x], rows[second][y]) in base.arrows()
                                          for tint, x, y in by.arrows() if tint == colour),
        lambda mark, row: all((mark, rows[row][x]) in base.marks() for sign, x in by.marks() if sign == mark))


def plain_lots(web):
    sizes = range(1, web.points() + 1)
    rows = [list(row) for size in sizes for row in itertools.combinations(range(web.points()), size)]
    rows = sorted(rows, key=lambda row: sum(2 ** point for point in row))
    return web_of(
        len(rows),
        lambda colour, first, second:
        all(any((colour, x, y) in web.arrows() for y in rows[second]) for x in rows[first])
        and all(any((colour, x, y) in web.arrows() for x in rows[first]) for y in rows[second]),
        lambda mark, row: all((mark, x) in web.marks() for x in rows[row]))


class Interface(unittest.TestCase):
    def test_names_of_what_is_handed_in(self):
        told = {"beside": "(one, other)", "times": "(one, other)", "power": "(base, by)", "lots": "(web)",
                "turned": "(web)", "folded": "(web, one, other)", "kept": "(web, points)", "path": "(text)"}
        for name, signature in told.items():
            self.assertEqual(str(inspect.signature(getattr(made, name))), signature)
            self.assertEqual(getattr(made, name).__module__, "wardweb.made")

    def test_handed_in_by_name(self):
        one, other = read_web("1 p0"), read_web("2 0a1")
        self.assertEqual(beside(other=other, one=one), read_web("3 1a2 p0"))
        self.assertEqual(times(other=other, one=one), Web(2))
        self.assertEqual(power(by=one, base=other), read_web("2 0a0 0a1 1a0 1a1 0b0 0b1 1b0 1b1 0c0 0c1 1c0 1c1 "
                                                             "q0 q1 r0 r1"))
        self.assertEqual(lots(web=one), read_web("1 p0"))
        self.assertEqual(turned(web=other), read_web("2 1a0"))
        self.assertEqual(folded(other=1, one=0, web=other), read_web("1 0a0"))
        self.assertEqual(kept(points=[1], web=other), Web(1))
        self.assertEqual(path(text="a>"), other)

    def test_handed_webs_stay(self):
        webs = [SAMPLE, read_web("2 0a1 1b1 p0 p1"), NONE, Web(1)]
        texts = [str(web) for web in webs]
        for one, other in itertools.product(webs, repeat=2):
            for make in (beside, times, power):
                make(one, other)
        for web in webs:
            lots(web)
            turned(web)
            kept(web, list(range(web.points())))
        folded(webs[0], 0, 2)
        self.assertEqual([str(web) for web in webs], texts)


class Beside(unittest.TestCase):
    def test_arrows_and_marks_of_both(self):
        self.assertEqual(beside(SAMPLE, read_web("2 0a1 1b1 1c0 p0 r1")),
                         read_web("5 0a1 1a2 3a4 0b0 2b1 4b4 4c3 p2 p3 q0 q1 r4"))
        self.assertEqual(beside(read_web("2 0a1 p0"), SAMPLE), read_web("5 0a1 2a3 3a4 2b2 4b3 p0 p4 q2 q3"))

    def test_without_points(self):
        self.assertEqual(beside(NONE, SAMPLE), SAMPLE)
        self.assertEqual(beside(SAMPLE, NONE), SAMPLE)
        self.assertEqual(beside(NONE, NONE), NONE)
        self.assertEqual(beside(NONE, full_web(81)), full_web(81))
        self.assertEqual(beside(full_web(81), NONE), full_web(81))

    def test_the_bound(self):
        for one, other in ((40, 41), (80, 1), (1, 80)):
            self.assertEqual(beside(Web(one), Web(other)).points(), 81)
        for one, other in ((41, 41), (81, 1), (1, 81), (81, 81)):
            self.assertEqual(refusal(TooMany, beside, Web(one), Web(other)).bound, 81)


class Times(unittest.TestCase):
    def test_an_ordinary_one(self):
        one, other = read_web("2 0a1 0b0 p1 q0"), read_web("3 0a2 2a1 1b2 p0 p1 r2")
        # Pairs 00, 01, 02, 10, 11, 12.
        self.assertEqual(times(one, other), read_web("6 0a5 2a4 1b2 p3 p4"))

    def test_by_the_words(self):
        for one, other in itertools.product(some_webs(11, 8, 4, 0.3), some_webs(12, 8, 5, 0.4)):
            self.assertEqual(times(one, other), plain_times(one, other))
        for one, other in itertools.product(small_webs(), repeat=2):
            self.assertEqual(times(one, other), plain_times(one, other))

    def test_without_points(self):
        for web in (NONE, SAMPLE, full_web(81)):
            self.assertEqual(times(NONE, web), NONE)
            self.assertEqual(times(web, NONE), NONE)

    def test_by_the_point_with_all(self):
        self.assertEqual(times(SAMPLE, full_web(1)), SAMPLE)
        self.assertEqual(times(full_web(1), SAMPLE), SAMPLE)

    def test_the_bound(self):
        for one, other in ((9, 9), (1, 81), (81, 1), (3, 27)):
            self.assertEqual(times(full_web(one), full_web(other)), full_web(81))
        for one, other in ((2, 41), (41, 2), (9, 10), (81, 2), (81, 81)):
            self.assertEqual(refusal(TooMany, times, Web(one), Web(other)).bound, 81)


class Power(unittest.TestCase):
    def test_an_ordinary_one(self):
        base, by = read_web("2 0a1 1b1 p1"), read_web("2 0a1 0b0 p0 q1")
        # Lists 00, 01, 10, 11: a needs 0 at the first one's 0 and 1 at the second one's 1; b needs 1 at 0 of both;
        # p needs 1 at 0; q isn't in the base; r is nowhere.
        arrows = [("a", x, y) for x in (0, 1) for y in (1, 3)] + [("b", x, y) for x in (2, 3) for y in (2, 3)]
        arrows += [("c", x, y) for x in range(4) for y in range(4)]
        marks = [("p", 2), ("p", 3)] + [("r", x) for x in range(4)]
        self.assertEqual(power(base, by), Web(4, arrows=arrows, marks=marks))

    def test_by_the_words(self):
        for base, by in itertools.product(some_webs(21, 12, 3, 0.5), some_webs(22, 8, 3, 0.2)):
            self.assertEqual(power(base, by), plain_power(base, by))
        for base, by in itertools.product(small_webs(), repeat=2):
            self.assertEqual(power(base, by), plain_power(base, by))
        for base, by in ((read_web("3 0a1 1a2 2a2 p1"), read_web("4 0a1 2a1 3b3 p2")),
                         (read_web("9 0a8 8a0 3b3 q7"), read_web("2 0a1 1b0 q1"))):
            self.assertEqual(power(base, by), plain_power(base, by))

    def test_by_a_web_without_points(self):
        for base in (NONE, Web(1), SAMPLE, Web(81)):
            self.assertEqual(power(base, NONE), full_web(1))

    def test_of_a_base_without_points(self):
        for by in (Web(1), SAMPLE, Web(81), full_web(81)):
            self.assertEqual(power(NONE, by), NONE)

    def test_by_arrows_from_a_point_to_itself(self):
        base = read_web("3 0a1 1a1 2a0 0b2")
        told = power(base, read_web("1 0a0"))
        self.assertEqual([arrow for arrow in told.arrows() if arrow[0] == "a"], [("a", 0, 1), ("a", 1, 1), ("a", 2, 0)])
        self.assertEqual(len(told.arrows()), 3 + 9 + 9)
        self.assertEqual(power(SAMPLE, read_web("1 0a0 0b0 0c0 p0 q0 r0")), SAMPLE)

    def test_by_marks(self):
        base = read_web("3 p0 p2 q1")
        self.assertEqual(power(base, read_web("1 p0 q0")).marks(),
                         [("p", 0), ("p", 2), ("q", 1), ("r", 0), ("r", 1), ("r", 2)])
        self.assertEqual(power(base, read_web("2 p0 p1")).marked("p"), [0, 2, 6, 8])
        self.assertEqual(power(base, read_web("2 p1")).marked("p"), [0, 2, 3, 5, 6, 8])
        self.assertEqual(power(base, read_web("2 r1")).marked("r"), [])

    def test_points_rise_as_lists(self):
        base, by = read_web("3 p1"), read_web("4 p0")
        rows = [list(row) for row in itertools.product(range(3), repeat=4)]
        self.assertEqual(power(base, by).marked("p"), [at for at, row in enumerate(rows) if row[0] == 1])
        self.assertEqual(power(base, read_web("4 p3")).marked("p"), [at for at, row in enumerate(rows) if row[3] == 1])

    def test_the_points_with_all_are_the_maps(self):
        for base, by in itertools.product(some_webs(23, 8, 3, 0.5), some_webs(24, 6, 3, 0.2)):
            told = power(base, by)
            rows = [list(row) for row in itertools.product(range(base.points()), repeat=by.points())]
            whole = [row for at, row in enumerate(rows)
                     if all(at in told.after(colour, at) for colour in COLOURS)
                     and all(at in told.marked(mark) for mark in MARKS)]
            self.assertEqual(whole, all_maps(by, base))

    def test_maps_into_a_power_are_maps_of_a_product(self):
        firsts, seconds, bases = some_webs(25, 5, 3, 0.2), some_webs(26, 5, 2, 0.3), some_webs(27, 5, 3, 0.5)
        for one, by, base in itertools.product(firsts, seconds, bases):
            self.assertEqual(count_maps(one, power(base, by)), count_maps(times(one, by), base))

    def test_the_bound(self):
        for base, by, points in ((3, 4, 81), (9, 2, 81), (81, 1, 81), (2, 6, 64), (4, 3, 64), (1, 81, 1)):
            self.assertEqual(power(Web(base), Web(by)).points(), points)
        for base, by in ((3, 5), (10, 2), (2, 7), (5, 3), (81, 2), (2, 81), (81, 81)):
            self.assertEqual(refusal(TooMany, power, Web(base), Web(by)).bound, 81)


class Lots(unittest.TestCase):
    def test_few_points(self):
        self.assertEqual(lots(NONE), NONE)
        self.assertEqual(lots(Web(1)), Web(1))
        self.assertEqual(lots(read_web("1 0a0 0c0 q0")), read_web("1 0a0 0c0 q0"))

    def test_the_order_of_the_lots(self):
        web = read_web("3 0a0 1b1 2c2 p0 p1 q1 q2 r0 r2")
        # Lots 0, 1, 01, 2, 02, 12, 012.
        self.assertEqual(lots(web), read_web("7 0a0 1b1 3c3 p0 p1 p2 q1 q3 q5 r0 r3 r4"))

    def test_both_halves_are_needed(self):
        # Lots 0, 1, 01.
        self.assertEqual(lots(read_web("2 0a0 0a1")).arrows(), [("a", 0, 0), ("a", 0, 1), ("a", 0, 2)])
        self.assertEqual(lots(read_web("2 0a0 1a0")).arrows(), [("a", 0, 0), ("a", 1, 0), ("a", 2, 0)])
        self.assertEqual(lots(read_web("2 0a1 1a0")).arrows(), [("a", 0, 1), ("a", 1, 0), ("a", 2, 2)])
        self.assertEqual(lots(read_web("2 0a1")).arrows(), [("a", 0, 1)])

    def test_marks_that_all_bear(self):
        self.assertEqual(lots(read_web("3 p0 p2 q1")).marks(), [("p", 0), ("p", 3), ("p", 4), ("q", 1)])

    def test_by_the_words(self):
        for web in [*some_webs(31, 12, 4, 0.2), *some_webs(32, 12, 4, 0.5), *some_webs(33, 4, 5, 0.3), *small_webs()]:
            self.assertEqual(lots(web), plain_lots(web))

    def test_six_points(self):
        web = read_web("6 0a1 1a2 2a3 3a4 4a5 5a0 0b5 1b5 p0 p5 q3")
        self.assertEqual(lots(web), plain_lots(web))
        self.assertEqual(lots(Web(6)), Web(63))
        self.assertEqual(len(lots(full_web(6)).arrows()), 3 * 63 * 63)

    def test_more_points(self):
        for points in (7, 8, 81):
            self.assertEqual(refusal(TooMany, lots, Web(points)).bound, 81)


class Turned(unittest.TestCase):
    def test_each_arrow_the_other_way(self):
        self.assertEqual(turned(SAMPLE), read_web("3 1a0 2a1 0b0 1b2 p2 q0 q1"))
        self.assertEqual(turned(NONE), NONE)

    def test_twice(self):
        for web in [*some_webs(41, 20, 6, 0.3), full_web(81)]:
            self.assertEqual(turned(turned(web)), web)
            self.assertEqual(turned(web).arrows(), sorted((colour, y, x) for colour, x, y in web.arrows()))
            self.assertEqual(turned(web).marks(), web.marks())


class Folded(unittest.TestCase):
    def test_the_greater_one_goes(self):
        web = read_web("4 0a1 2a3 3b1 1c3 p1 p3 q2 r3")
        for one, other in ((1, 3), (3, 1)):
            self.assertEqual(folded(web, one, other), read_web("3 0a1 2a1 1b1 1c1 p1 q2 r1"))
        for one, other in ((0, 1), (1, 0)):
            self.assertEqual(folded(web, one, other), read_web("3 0a0 1a2 2b0 0c2 p0 p2 q1 r2"))
        for one, other in ((0, 2), (2, 0)):
            self.assertEqual(folded(web, one, other), read_web("3 0a1 0a2 2b1 1c2 p1 p2 q0 r2"))

    def test_arrows_between_the_two(self):
        self.assertEqual(folded(read_web("2 0a1 1b0"), 0, 1), read_web("1 0a0 0b0"))
        self.assertEqual(folded(read_web("3 1a2 2a1"), 2, 1), read_web("2 1a1"))
        self.assertEqual(folded(read_web("3 2a2 2b0"), 1, 2), read_web("2 1a1 1b0"))

    def test_what_both_had_is_there_once(self):
        self.assertEqual(folded(read_web("3 0a2 1a2 p0 p1"), 0, 1), read_web("2 0a1 p0"))

    def test_alike_ones(self):
        for point in range(3):
            self.assertEqual(folded(SAMPLE, point, point), SAMPLE)

    def test_points_that_are_not_there(self):
        for number in (-1, -3, 3, 4, FAR, -FAR):
            for one, other in ((number, 0), (0, number), (number, number), (number, 99), (2, number)):
                self.assertEqual(refusal(BadPoint, folded, SAMPLE, one, other).number, number)
        self.assertEqual(refusal(BadPoint, folded, NONE, 0, 1).number, 0)

    def test_by_the_maps(self):
        web = read_web("5 0a1 2a0 4a4 1b2 3c4 p3 q4 r1")
        for one, other in itertools.permutations(range(5), 2):
            low, high = sorted((one, other))
            images = [low if point == high else point - (point > high) for point in range(5)]
            self.assertEqual(folded(web, one, other),
                             Web(4, arrows=[(colour, images[x], images[y]) for colour, x, y in web.arrows()],
                                 marks=[(mark, images[x]) for mark, x in web.marks()]))

    def test_the_greatest_web(self):
        self.assertEqual(folded(full_web(81), 80, 0), full_web(80))


class Kept(unittest.TestCase):
    def test_in_any_order(self):
        self.assertEqual(kept(SAMPLE, [2, 0]), read_web("2 1b1 p0 q1"))
        self.assertEqual(kept(SAMPLE, [0, 2]), read_web("2 0b0 p1 q0"))
        self.assertEqual(kept(SAMPLE, (2, 1)), read_web("2 1a0 0b1 p0 q1"))
        self.assertEqual(kept(SAMPLE, [2, 1, 0]), read_web("3 1a0 2a1 0b1 2b2 p0 q1 q2"))

    def test_none_and_all(self):
        self.assertEqual(kept(SAMPLE, []), NONE)
        self.assertEqual(kept(SAMPLE, ()), NONE)
        self.assertEqual(kept(NONE, []), NONE)
        self.assertEqual(kept(SAMPLE, [0, 1, 2]), SAMPLE)
        self.assertEqual(kept(full_web(81), list(range(80, -1, -1))), full_web(81))

    def test_by_the_words(self):
        web = some_webs(51, 1, 5, 0.4)[0]
        for size in range(web.points() + 1):
            for points in itertools.permutations(range(web.points()), size):
                told = kept(web, list(points))
                self.assertEqual(told, web_of(size, lambda c, x, y: (c, points[x], points[y]) in web.arrows(),
                                              lambda m, x: (m, points[x]) in web.marks()))

    def test_the_first_that_stands_twice_or_is_not_there(self):
        told = (([0, 0], 0), ([1, 2, 1, 2], 1), ([2, 1, 1, 9], 1), ([3], 3), ([0, 1, 2, 3], 3), ([-1], -1),
                ([0, -1, 0], -1), ([2, 2, -1], 2), ([FAR], FAR), ([1, -FAR, 7], -FAR), ([0, 1, 2] * 1000, 0))
        for points, number in told:
            self.assertEqual(refusal(BadPoint, kept, SAMPLE, points).number, number)
        self.assertEqual(refusal(BadPoint, kept, NONE, [0]).number, 0)

    def test_the_handed_list_stays(self):
        points = [2, 0]
        kept(SAMPLE, points)
        self.assertEqual(points, [2, 0])


class Paths(unittest.TestCase):
    def test_the_text_of_none(self):
        self.assertEqual(path(""), Web(1))

    def test_arrows_either_way(self):
        for colour in COLOURS:
            self.assertEqual(path(f"{colour}>"), Web(2, arrows=[(colour, 0, 1)]))
            self.assertEqual(path(f"{colour}<"), Web(2, arrows=[(colour, 1, 0)]))
        self.assertEqual(path("a> b< c> a<"), read_web("5 0a1 4a3 2b1 2c3"))

    def test_marks_at_each_point(self):
        for mark in MARKS:
            self.assertEqual(path(mark), Web(1, marks=[(mark, 0)]))
        self.assertEqual(path("p q a> r b< r p"), read_web("3 0a1 2b1 p0 p2 q0 r1 r2"))
        self.assertEqual(path("a> p p p"), read_web("2 0a1 p1"))

    def test_the_first_word_that_is_none(self):
        told = ((" ", 0), ("  ", 0), (" a>", 0), ("a> ", 1), ("a>  b>", 1), ("a> p  ", 2), ("d>", 0), ("p a> s", 2),
                ("a", 0), (">", 0), ("<", 0), ("a>b>", 0), ("a>>", 0), ("a<>", 0), ("a=", 0), ("a> >a", 1), ("pq", 0),
                ("a> pq", 1), ("p0", 0), ("A>", 0), ("P", 0), ("a>\n", 0), ("a>\np", 0), ("\n", 0), ("a> \n", 1),
                ("ab>", 0), ("p>", 0), ("0a1", 0), ("a> 1", 1), ("x y", 0), ("a> x  y", 1), ("<a", 0), ("a> b c>", 1))
        for text, at in told:
            self.assertEqual(refusal(BadText, path, text).at, at, text)

    def test_eighty_arrows(self):
        told = path(" ".join(["a>"] * 80))
        self.assertEqual(told, Web(81, arrows=[("a", point, point + 1) for point in range(80)]))
        self.assertEqual(path(" ".join(["b<"] * 80 + ["p"] * 9)).marks(), [("p", 80)])

    def test_the_eighty_first_arrow(self):
        self.assertEqual(refusal(BadText, path, " ".join(["a>"] * 81)).at, 80)
        self.assertEqual(refusal(BadText, path, " ".join(["a<"] * 200)).at, 80)
        self.assertEqual(refusal(BadText, path, " ".join(["q", "a<"] * 81)).at, 161)
        self.assertEqual(refusal(BadText, path, " ".join(["a<"] * 80 + ["x", "a>"])).at, 80)
        self.assertEqual(refusal(BadText, path, " ".join(["a<"] * 80 + ["r", "a>", "x"])).at, 81)


if __name__ == "__main__":
    unittest.main()

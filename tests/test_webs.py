"""Webs: making, asking, equality, texts and their reading."""

import itertools
import unittest

from samples import FAR, full_web
from wardweb import webs
from wardweb.errors import BadArrow, BadMark, BadPoint, BadSize, BadText, WebError
from wardweb.webs import COLOURS, MARKS, MOST_POINTS, Web, read_web

SAMPLE = Web(3, arrows=[("a", 0, 1), ("a", 1, 2), ("b", 0, 0)], marks=[("p", 2)])


class Making(unittest.TestCase):
    def refused(self, refusal, *places, **names):
        with self.assertRaises(refusal) as caught:
            Web(*places, **names)
        return caught.exception

    def test_constants(self):
        self.assertEqual((MOST_POINTS, COLOURS, MARKS), (81, "abc", "pqr"))

    def test_sizes(self):
        for points in range(82):
            self.assertEqual(Web(points).points(), points)
            self.assertEqual(len(Web(points=points)), points)

    def test_bad_sizes(self):
        for points in (-1, -5, 82, 100, FAR, -FAR):
            self.assertEqual(self.refused(BadSize, points).number, points)

    def test_arrows_in_any_order_some_twice(self):
        arrows = [("c", 0, 0), ("a", 10, 2), ("b", 1, 1), ("a", 2, 10), ("a", 10, 2), ("a", 2, 9)]
        web = Web(11, arrows=arrows)
        self.assertEqual(web.arrows(), [("a", 2, 9), ("a", 2, 10), ("a", 10, 2), ("b", 1, 1), ("c", 0, 0)])
        self.assertEqual(Web(11, arrows=tuple(reversed(arrows))).arrows(), web.arrows())

    def test_marks_in_any_order_some_twice(self):
        marks = [("r", 0), ("p", 10), ("q", 3), ("p", 2), ("p", 10)]
        web = Web(11, marks=marks)
        self.assertEqual(web.marks(), [("p", 2), ("p", 10), ("q", 3), ("r", 0)])
        self.assertEqual(Web(11, marks=tuple(reversed(marks))).marks(), web.marks())

    def test_nothing_is_there_without_being_told(self):
        self.assertEqual((Web(4).arrows(), Web(4).marks()), ([], []))

    def test_names_in_any_order(self):
        web = Web(marks=[("p", 0)], arrows=[("a", 0, 0)], points=1)
        self.assertEqual(web, Web(1, arrows=[("a", 0, 0)], marks=[("p", 0)]))

    def test_what_stands_behind_the_star_has_no_place(self):
        with self.assertRaises(TypeError):
            Web(1, [("a", 0, 0)])
        with self.assertRaises(TypeError):
            Web()

    def test_the_first_bad_arrow(self):
        good = ("a", 0, 1)
        bad = [("d", 0, 1), ("", 0, 1), ("ab", 0, 1), ("abc", 0, 1), ("p", 0, 1), ("A", 0, 1), ("a ", 0, 1),
               ("a", 2, 0), ("a", 0, 2), ("a", -1, 0), ("a", 0, -1), ("a", FAR, 0), ("a", 0, -FAR)]
        for arrow in bad:
            self.assertEqual(self.refused(BadArrow, 2, arrows=[arrow]).at, 0)
            self.assertEqual(self.refused(BadArrow, 2, arrows=(good, good, arrow, good, ("z", 9, 9))).at, 2)

    def test_the_first_bad_mark(self):
        good = ("p", 1)
        bad = [("s", 0), ("", 0), ("pq", 0), ("pqr", 0), ("a", 0), ("P", 0), ("p", 2), ("p", -1), ("p", FAR)]
        for mark in bad:
            self.assertEqual(self.refused(BadMark, 2, marks=[mark]).at, 0)
            self.assertEqual(self.refused(BadMark, 2, marks=(good, mark, good, ("z", 9))).at, 1)

    def test_a_web_without_points_has_nothing(self):
        self.assertEqual(self.refused(BadArrow, 0, arrows=[("a", 0, 0)]).at, 0)
        self.assertEqual(self.refused(BadMark, 0, marks=[("p", 0)]).at, 0)

    def test_size_then_arrows_then_marks(self):
        self.refused(BadSize, 82, marks=[("s", 0)], arrows=[("d", 0, 0)])
        self.refused(BadArrow, 1, marks=[("s", 0)], arrows=[("d", 0, 0)])
        self.refused(BadMark, 1, marks=[("s", 0)], arrows=[("a", 0, 0)])

    def test_the_greatest_web(self):
        web = full_web(81)
        self.assertEqual(len(web.arrows()), 3 * 81 * 81)
        self.assertEqual(len(web.marks()), 3 * 81)
        self.assertEqual(web.after("c", 80), list(range(81)))


class Copies(unittest.TestCase):
    def test_handed_lists_are_neither_changed_nor_kept(self):
        arrows = [("b", 1, 0), ("a", 0, 1), ("b", 1, 0)]
        marks = [("q", 1), ("p", 0), ("q", 1)]
        web = Web(2, arrows=arrows, marks=marks)
        self.assertEqual(arrows, [("b", 1, 0), ("a", 0, 1), ("b", 1, 0)])
        self.assertEqual(marks, [("q", 1), ("p", 0), ("q", 1)])
        arrows.append(("c", 0, 0))
        marks.clear()
        self.assertEqual(str(web), "2 0a1 1b0 p0 q1")
        self.assertEqual(web.after("c", 0), [])

    def test_a_refused_list_is_not_changed(self):
        arrows = [("b", 1, 0), ("d", 0, 1)]
        with self.assertRaises(BadArrow):
            Web(2, arrows=arrows)
        self.assertEqual(arrows, [("b", 1, 0), ("d", 0, 1)])

    def test_told_lists_are_new(self):
        web = Web(2, arrows=[("a", 0, 1)], marks=[("p", 1)])
        asked = (web.arrows, web.marks, lambda: web.after("a", 0), lambda: web.before("a", 1),
                 lambda: web.after("z", 0), lambda: web.before("z", 0), lambda: web.marked("p"))
        for ask in asked:
            told = ask()
            kept = list(told)
            told.append("more")
            self.assertEqual(ask(), kept)
        self.assertEqual(str(web), "2 0a1 p1")


class Asking(unittest.TestCase):
    def test_all_colours_and_points(self):
        arrows = [("a", 0, 1), ("a", 0, 0), ("a", 2, 1), ("b", 1, 2), ("b", 1, 10), ("b", 1, 3), ("c", 10, 10)]
        web = Web(11, arrows=arrows)
        for colour in COLOURS:
            for point in range(11):
                after = sorted(end for paint, start, end in arrows if (paint, start) == (colour, point))
                before = sorted(start for paint, start, end in arrows if (paint, end) == (colour, point))
                self.assertEqual(web.after(colour, point), after)
                self.assertEqual(web.before(colour=colour, point=point), before)
        self.assertEqual(web.after("b", 1), [2, 3, 10])
        self.assertEqual(web.before("a", 1), [0, 2])

    def test_all_marks(self):
        web = Web(11, marks=[("p", 10), ("p", 2), ("r", 0)])
        self.assertEqual(web.marked("p"), [2, 10])
        self.assertEqual(web.marked("q"), [])
        self.assertEqual(web.marked(mark="r"), [0])

    def test_any_other_text(self):
        web = full_web(2)
        for text in ("", "d", "ab", "abc", "p", "A", "0a1", " ", "\n"):
            self.assertEqual(web.after(text, 0), [])
            self.assertEqual(web.before(text, 1), [])
        for text in ("", "s", "pq", "pqr", "a", "P", "p0", " ", "\n"):
            self.assertEqual(web.marked(text), [])

    def test_points_that_are_not_there(self):
        web = full_web(3)
        for point in (3, 4, -1, -3, FAR, -FAR):
            for colour in ("a", "z", ""):
                for ask in (web.after, web.before):
                    with self.assertRaises(BadPoint) as caught:
                        ask(colour, point)
                    self.assertEqual(caught.exception.number, point)
        with self.assertRaises(BadPoint):
            Web(0).after("a", 0)


class Equality(unittest.TestCase):
    def test_told_in_other_orders(self):
        one = Web(3, arrows=[("a", 0, 1), ("b", 2, 2)], marks=[("p", 0), ("q", 0)])
        other = Web(3, arrows=(("b", 2, 2), ("a", 0, 1), ("b", 2, 2)), marks=(("q", 0), ("p", 0), ("p", 0)))
        self.assertTrue(one == other)
        self.assertFalse(one != other)

    def test_one_thing_more_or_less(self):
        other_ones = [
            Web(4, arrows=SAMPLE.arrows(), marks=SAMPLE.marks()),
            Web(3, arrows=SAMPLE.arrows()[1:], marks=SAMPLE.marks()),
            Web(3, arrows=SAMPLE.arrows() + [("c", 0, 1)], marks=SAMPLE.marks()),
            Web(3, arrows=SAMPLE.arrows()),
            Web(3, arrows=SAMPLE.arrows(), marks=[("p", 2), ("q", 2)]),
            Web(3, arrows=[("a", 1, 0), ("a", 1, 2), ("b", 0, 0)], marks=[("p", 2)]),
        ]
        for other in other_ones:
            self.assertFalse(SAMPLE == other)
            self.assertFalse(other == SAMPLE)
            self.assertTrue(SAMPLE != other)
        self.assertTrue(Web(0) != Web(1))

    def test_any_other_thing(self):
        for thing in (None, 3, "3 0a1 1a2 0b0 p2", [], (), {}, object(), [0, 1, 2], Web):
            self.assertFalse(SAMPLE == thing)
            self.assertFalse(thing == SAMPLE)
            self.assertTrue(SAMPLE != thing)
            self.assertFalse(Web(0) == thing)


class Texts(unittest.TestCase):
    def test_texts(self):
        self.assertEqual(str(SAMPLE), "3 0a1 1a2 0b0 p2")
        self.assertEqual(str(Web(0)), "0")
        self.assertEqual(str(Web(81)), "81")
        self.assertEqual(str(Web(2, arrows=[("c", 1, 0)])), "2 1c0")
        self.assertEqual(str(Web(2, marks=[("r", 1), ("p", 0), ("p", 1)])), "2 p0 p1 r1")

    def test_numbers_of_one_and_two_figures(self):
        web = Web(12, arrows=[("a", 10, 2), ("a", 2, 10), ("a", 2, 9), ("b", 0, 11)], marks=[("q", 10), ("q", 9)])
        self.assertEqual(str(web), "12 2a9 2a10 10a2 0b11 q9 q10")
        self.assertEqual(read_web("12 2a9 2a10 10a2 0b11 q9 q10"), web)

    def test_repr(self):
        self.assertEqual(repr(SAMPLE), "Web(3 points, 3 arrows, 1 marks)")
        self.assertEqual(repr(Web(3, arrows=[("a", 0, 1), ("a", 0, 1), ("b", 0, 1)], marks=[("p", 0)])),
                         "Web(3 points, 2 arrows, 1 marks)")
        self.assertEqual(repr(Web(0)), "Web(0 points, 0 arrows, 0 marks)")

    def test_len(self):
        self.assertEqual([len(Web(0)), len(SAMPLE), len(Web(81))], [0, 3, 81])

    def test_read_again(self):
        for web in (SAMPLE, Web(0), Web(1), Web(81), full_web(1), full_web(11), full_web(81)):
            told = read_web(text=str(web))
            self.assertEqual(told, web)
            self.assertEqual(str(told), str(web))

    def test_all_webs_of_two_points_in_a_colour_and_a_mark(self):
        things = list(itertools.product("a", range(2), range(2))) + [("p", 0), ("p", 1)]
        for size in range(len(things) + 1):
            for some in itertools.combinations(things, size):
                arrows = [tie for tie in some if len(tie) == 3]
                marks = [tie for tie in some if len(tie) == 2]
                web = Web(2, arrows=arrows, marks=marks)
                self.assertEqual(read_web(str(web)), web)


class Reading(unittest.TestCase):
    def refused_at(self, text):
        with self.assertRaises(BadText) as caught:
            read_web(text)
        return caught.exception.at

    def test_the_first_word(self):
        for text in ("", " ", "  ", " 3", "x", "-1", "+1", "00", "01", "003", "82", "100", "810", "3\n", "\n3", "3.0",
                     "p0", "0a1", "1_0", "9" * 3990, "9" * 9000, "3,", "", "\n", "3\n0a1"):
            self.assertEqual(self.refused_at(text), 0, text[:20])

    def test_an_empty_word(self):
        self.assertEqual(self.refused_at("2 "), 1)
        self.assertEqual(self.refused_at("2  0a1"), 1)
        self.assertEqual(self.refused_at("2 0a1 "), 2)
        self.assertEqual(self.refused_at("2 0a1  p0"), 2)
        self.assertEqual(self.refused_at("0 "), 1)

    def test_words_that_are_none(self):
        for word in ("a", "p", "0", "1", "0a", "a1", "0 a1", "0d1", "0A1", "0aa1", "0a1a0", "0a1b0", "ab", "00a1", "0a01",
                     "01a1", "-0a1", "0a-1", "+0a1", "0a1\n", "\n0a1", "0a1,", "p00", "p01", "p-1", "pp0", "s0", "P0",
                     "0p", "0p1", "pq0", "p0\n", "p\n0", "p0a1", "0a1p0", "\n"):
            self.assertEqual(self.refused_at("2 0a0 " + word), 2, word)

    def test_points_that_are_not_there(self):
        for word in ("0a2", "2a0", "p2", "0a11", "11a0", "p11", "0a" + "1" * 30, "0c" + "9" * 9000, "r" + "9" * 9000):
            self.assertEqual(self.refused_at("2 " + word), 1, word[:20])
        self.assertEqual(self.refused_at("0 0a0"), 1)
        self.assertEqual(self.refused_at("0 p0"), 1)

    def test_words_rise(self):
        self.assertEqual(self.refused_at("2 0a1 0a1"), 2)
        self.assertEqual(self.refused_at("2 0a1 0a0"), 2)
        self.assertEqual(self.refused_at("2 1a0 0a1"), 2)
        self.assertEqual(self.refused_at("2 0b0 1a1"), 2)
        self.assertEqual(self.refused_at("2 0a0 p1 p1"), 3)
        self.assertEqual(self.refused_at("2 p1 p0"), 2)
        self.assertEqual(self.refused_at("2 q0 p1"), 2)

    def test_marks_behind_arrows(self):
        self.assertEqual(self.refused_at("2 p0 0a1"), 2)
        self.assertEqual(self.refused_at("2 0a0 r1 1c1"), 3)

    def test_rising_as_tuples_do(self):
        self.assertEqual(read_web("2 1a0 0b0").arrows(), [("a", 1, 0), ("b", 0, 0)])
        self.assertEqual(read_web("11 2a0 10a0 10a2 10a10 p2 p10").marks(), [("p", 2), ("p", 10)])
        self.assertEqual(self.refused_at("11 10a0 2a0"), 2)
        self.assertEqual(self.refused_at("11 0a10 0a2"), 2)
        self.assertEqual(self.refused_at("11 p10 p2"), 2)

    def test_the_first_of_several(self):
        self.assertEqual(self.refused_at("2 0a1 0a1 zz"), 2)
        self.assertEqual(self.refused_at("2 0a1 zz 0a0"), 2)
        self.assertEqual(self.refused_at("82 zz"), 0)

    def test_a_refusal_of_the_family(self):
        with self.assertRaises(WebError):
            webs.read_web("x")


if __name__ == "__main__":
    unittest.main()

"""Pages of halls: [25]."""

import inspect
import random
import unittest

from samples import bare_ring, bare_star, full_web, refusal
from wardweb import pages
from wardweb.errors import BadText, Missing, WebError
from wardweb.hall import Hall
from wardweb.made import path
from wardweb.pages import page, read_page
from wardweb.webs import Web, read_web

PAGE = """web v 0
web w 3 0a1 1a2 p2
tree line 2 0a1
tree pea 1 p0
rule bad v pea | !line
rule good w line & !(pea & pea)
"""


def some_hall():
    hall = Hall()
    hall.together([("web", "w", read_web("3 0a1 1a2 p2")), ("web", "v", Web(0)), ("tree", "pea", path("p")),
                   ("tree", "line", path("a>")), ("rule", "good", "w", "line&!(pea & (pea))"),
                   ("rule", "bad", "v", "pea|!line")])
    return hall


def full_hall():
    hall = Hall()
    hall.together([*[("web", f"w{letter}", bare_ring(3)) for letter in "hgfedcba"],
                   *[("tree", f"t{letter}", path("a> p")) for letter in "abcd"],
                   *[("rule", f"r{letter}", f"w{letter}", "ta & tb | !(tc | td)") for letter in "habcdefg"]])
    return hall


def plain_hall(rows):
    """A hall that the rows tell, if any does: webs first, then trees, then rules, whatever their order."""
    hall = Hall()
    for kind in ("web", "tree", "rule"):
        for row in rows:
            words = row.split(" ", 3 if row.startswith("rule ") else 2)
            try:
                if words[0] == kind == "rule":
                    hall.do(tuple(words))
                elif words[0] == kind:
                    hall.do((kind, words[1], read_web(words[2])))
            except (WebError, Missing, IndexError):
                return None
    return hall


def plain_at(text):
    """The number that is due, by the words: the rows so far, or the last one without a line feed; None of a page."""
    *rows, rest = text.split("\n")
    for at in range(len(rows)):
        hall = plain_hall(rows[:at + 1])
        if hall is None or page(hall) != "".join(row + "\n" for row in rows[:at + 1]):
            return at
    return len(rows) if rest else None


class Interface(unittest.TestCase):
    def test_names_of_what_is_handed_in(self):
        for name, signature in {"page": "(hall)", "read_page": "(text)"}.items():
            self.assertEqual(str(inspect.signature(getattr(pages, name))), signature)
            self.assertEqual(getattr(pages, name).__module__, "wardweb.pages")

    def test_handed_in_by_name(self):
        self.assertEqual(page(hall=some_hall()), PAGE)
        self.assertEqual(read_page(text=PAGE), some_hall())


class Pages(unittest.TestCase):
    def test_by_hand(self):
        self.assertEqual(page(some_hall()), PAGE)
        self.assertEqual(page(Hall()), "")
        hall = Hall()
        hall.do(("tree", "web", Web(1)))
        hall.do(("web", "rule", full_web(1)))
        self.assertEqual(page(hall), "web rule 1 0a0 0b0 0c0 p0 q0 r0\ntree web 1\n")

    def test_asking_changes_nothing(self):
        hall = some_hall()
        hall.do(("point", "w"))
        hall.undo()
        page(hall)
        self.assertEqual((hall, hall.depth()), (some_hall(), (1, 1)))

    def test_there_and_back(self):
        for hall in (Hall(), some_hall(), full_hall()):
            told = read_page(page(hall))
            self.assertIs(type(told), Hall)
            self.assertEqual(told, hall)
            self.assertEqual(told.depth(), (0, 0))
            self.assertEqual(page(told), page(hall))
            self.assertEqual((told.holding(), told.broken()), (hall.holding(), hall.broken()))

    def test_what_is_read_goes_on(self):
        hall = read_page(PAGE)
        hall.do(("point", "v"))
        hall.do(("drop", "good"))
        self.assertEqual(hall.depth(), (2, 0))
        hall.undo()
        hall.undo()
        self.assertEqual((page(hall), hall.depth()), (PAGE, (0, 2)))

    def test_great_halls(self):
        hall = Hall()
        hall.together([("web", "w", full_web(81)), ("tree", "t", bare_star(64))])
        self.assertEqual(read_page(page(hall)), hall)

    def test_all_beginnings(self):
        for hall in (some_hall(), full_hall()):
            rows = page(hall).split("\n")[:-1]
            for many in range(len(rows) + 1):
                text = "".join(row + "\n" for row in rows[:many])
                self.assertEqual(page(read_page(text)), text)


class Refused(unittest.TestCase):
    def judge(self, text, at):
        self.assertEqual(refusal(BadText, read_page, text).at, at, text)
        self.assertEqual(plain_at(text), at, text)

    def rows(self, *rows):
        return "".join(row + "\n" for row in rows)

    def test_line_feeds(self):
        self.judge(PAGE[:-1], 5)
        self.judge(PAGE + "\n", 6)
        self.judge("\n", 0)
        self.judge("\n" + PAGE, 0)
        self.judge("web w 1", 0)
        self.judge("web w 1\nweb", 1)
        self.judge(PAGE + "x", 6)
        self.judge(PAGE.replace("\ntree", "\n\ntree", 1), 2)
        self.judge("web w", 0)
        # Of several such rows the one with the lowest number.
        self.judge("web W 1\nweb x 1", 0)
        self.judge("web a 1\nweb a 1\nweb c 1", 1)
        self.judge(" ", 0)

    def test_each_row_twice(self):
        rows = PAGE.split("\n")[:-1]
        for at in range(len(rows)):
            self.judge(self.rows(*rows[:at + 1], *rows[at:]), at + 1)
            self.judge(self.rows(*rows, rows[at]), len(rows))

    def test_rows_exchanged(self):
        rows = PAGE.split("\n")[:-1]
        for at in range(len(rows) - 1):
            changed = [*rows[:at], rows[at + 1], rows[at], *rows[at + 2:]]
            self.judge(self.rows(*changed), at + (0 if rows[at].startswith("tree pea") else 1))
        self.judge(self.rows(rows[2], rows[0]), 1)
        self.judge(self.rows(rows[4]), 0)

    def test_rows_left_out(self):
        rows = PAGE.split("\n")[:-1]
        for at in range(len(rows)):
            text = self.rows(*rows[:at], *rows[at + 1:])
            due = plain_at(text)
            if due is None:
                self.assertEqual(page(read_page(text)), text)
            else:
                self.judge(text, due)
        self.judge(self.rows(*rows[1:]), 3)
        self.judge(self.rows(rows[0], *rows[2:]), 4)
        self.judge(self.rows(*rows[:2], *rows[3:]), 3)

    def test_each_kind_of_wrong_row(self):
        good = ["web w 1", "tree t 1 p0"]
        for row in ("", "web", "web ", "web x", "web x ", "web  1", "web x 01", "web x 1 ", "web x  1", " web x 1",
                    "web X 1", "web abcdefg 1", "web x 2 0a2", "web x 2 0a1 0a1", "Web x 1", "webs x 1", "x",
                    "web x 82", "tree x 0", "tree x 2", "tree x 1 0a0", "tree x", f"tree x {bare_star(65)}",
                    "rule r w t"):
            self.judge(self.rows(row), 0)
        for row in ("web x 1", "web w 1", "tree t 1", "tree s 1", "tree w 1", "tree z 2", "tree z", "rule w w t",
                    "rule t w t", "rule r x t", "rule r t t", "rule r w w", "rule r w x", "rule r w", "rule r w ",
                    "rule r  t", "rule R w t", "rule abcdefg w t", "rule r w t ", "rule r w  t", "rule r w (t)",
                    "rule r w t&t", "rule r w t & (t)", "rule r w (t & t) | t", "rule r w ! t", "rule r w t t",
                    "rule r w t &", "rule  w t", "rules r w t", "rule r W t", "rule r w T", "rule r w t\t"):
            self.judge(self.rows(*good, row), 2)
        for row in ("rule r w t", "rule r w t & (t | t)", "rule r w !!t", "tree z 1", "tree tt 2 1c0"):
            self.assertEqual(page(read_page(self.rows(*good, row))), self.rows(*good, row))

    def test_names_rise(self):
        self.judge("web b 1\nweb a 1\n", 1)
        self.judge("web b 1\nweb ab 1\n", 1)
        self.judge("web aa 1\nweb a 1\n", 1)
        self.judge("tree b 1\nweb c 1\n", 1)
        self.judge("web w 1\ntree t 1\nrule s w t\nrule r w t\n", 3)
        self.judge("web w 1\ntree t 1\nrule s w t\ntree u 1\n", 3)
        self.judge("web w 1\ntree t 1\nrule s w t\nweb x 1\n", 3)
        self.assertEqual(read_page("web b 1\ntree a 1\n").trees(), ["a"])

    def test_too_many(self):
        text = page(full_hall())
        rows = text.split("\n")[:-1]
        self.judge(self.rows(*rows[:12], "tree z 1", *rows[12:]), 12)
        self.judge(self.rows(*rows[:8], "web z 1", *rows[8:]), 12)
        self.judge(self.rows(*rows, "rule z wa ta"), 20)
        self.judge(self.rows(*[f"web {letter} 0" for letter in "abcdefghijklm"]), 12)
        text = self.rows(*[f"web {letter} 0" for letter in "abcdefghijkl"])
        self.assertEqual(page(read_page(text)), text)

    def test_bent_by_a_sign(self):
        dice = random.Random(801)
        texts = [PAGE, page(full_hall())[:400], "web a 2 0a1 1a0\ntree b 2 0a1\nrule c a b | !b\n"]
        same = 0
        for _ in range(600):
            text = dice.choice(texts)
            at = dice.randrange(len(text))
            sign = dice.choice("abpwt 01!&|()\n~A")
            for bent in (text[:at] + text[at + 1:], text[:at] + sign + text[at:], text[:at] + sign + text[at + 1:]):
                due = plain_at(bent)
                if due is None:
                    same += 1
                    self.assertEqual(page(read_page(bent)), bent)
                else:
                    self.judge(bent, due)
        self.assertGreater(same, 10)

    def test_rows_mixed(self):
        dice = random.Random(802)
        more = ["web x 1", "tree x 1", "rule x w line", "web pea 1", "rule w v pea", "tree z 2 1b0", "rule z z z"]
        for _ in range(400):
            rows = PAGE.split("\n")[:-1]
            for _ in range(dice.choice((1, 1, 2))):
                turn = dice.random()
                at = dice.randrange(len(rows))
                if turn < 0.4:
                    rows.insert(at, dice.choice(more))
                elif turn < 0.7:
                    del rows[at]
                else:
                    rows.insert(dice.randrange(len(rows)), rows.pop(at))
            text = self.rows(*rows)
            due = plain_at(text)
            if due is None:
                self.assertEqual(page(read_page(text)), text)
            else:
                self.judge(text, due)


if __name__ == "__main__":
    unittest.main()

"""The hall: deeds, steps, rules and twins: [23], [24]."""

import inspect
import random
import unittest

from samples import FAR, bare_ring, bare_star, full_web, refusal
from wardweb import errors
from wardweb import hall as module
from wardweb.errors import (BadDeed, BadName, BadPoint, BadText, BadTie, Full, InUse, NoRule, NothingLeft, NoThing,
                            NoTie, NotTree, NoTree, NoWeb, Same, Taken, TooMany)
from wardweb.hall import MOST_RULES, MOST_THINGS, Hall
from wardweb.made import beside, folded, path
from wardweb.plans import made, read_plan
from wardweb.sayings import names_of, read_saying, saying_text, truth
from wardweb.trees import is_tree
from wardweb.wards import choices, paper, paper_holds
from wardweb.webs import COLOURS, MARKS, Web, read_web

BAD_NAMES = ("", "A", "aB", "abcdefg", "a1", "a b", " a", "a ", "a\n", "_", "a" * 4000, "a.b", "web!")


def look(hall):
    """All that a hall tells of what it keeps."""
    return ({name: str(hall.web(name)) for name in hall.webs()}, {name: str(hall.tree(name)) for name in hall.trees()},
            {name: hall.rule(name) for name in hall.rules()}, hall.holding(), hall.broken(),
            {name: hall.papers(name) for name in hall.rules()}, len(hall), repr(hall))


def told_all(hall):
    return look(hall), hall.depth()


def some_hall():
    """Webs w and v, trees line and pea, a rule that holds and one that doesn't."""
    hall = Hall()
    hall.together([("web", "w", read_web("3 0a1 1a2 p2")), ("web", "v", Web(2)), ("tree", "line", path("a>")),
                   ("tree", "pea", path("p")), ("rule", "good", "w", "line & pea"), ("rule", "bad", "v", "pea | !line"),
                   ("rule", "ill", "v", "pea")])
    return hall


def full_hall():
    hall = Hall()
    hall.together([*[("web", f"w{letter}", Web(1)) for letter in "abcdefgh"],
                   *[("tree", f"t{letter}", path("a>")) for letter in "abcd"],
                   *[("rule", f"r{letter}", "wa", "ta") for letter in "abcdefgh"]])
    return hall


class Judging(unittest.TestCase):
    def refused(self, hall, kind, deed, **told):
        """The deed is refused so, alone and in the midst of others, and nothing is changed."""
        before = told_all(hall)
        for call, handed in ((hall.do, deed), (hall.together, [deed]),
                             (hall.together, [("web", "fresh", Web(3)), ("drop", "fresh"), deed, ("drop", "nothere")])):
            if not (handed != deed and handed != [deed] and len(hall.webs()) + len(hall.trees()) == 12):
                found = refusal(kind, call, handed)
                for key, value in told.items():
                    self.assertEqual(getattr(found, key), value, deed)
                self.assertEqual(told_all(hall), before)


class Interface(unittest.TestCase):
    def test_constants(self):
        self.assertEqual((MOST_THINGS, MOST_RULES), (12, 8))

    def test_names_of_what_is_handed_in(self):
        told = {"do": "(self, deed)", "together": "(self, deeds)", "undo": "(self)", "redo": "(self)",
                "depth": "(self)", "webs": "(self)", "trees": "(self)", "rules": "(self)", "web": "(self, name)",
                "tree": "(self, name)", "rule": "(self, name)", "holds": "(self, name)", "papers": "(self, name)",
                "holding": "(self)", "broken": "(self)", "twin": "(self)"}
        for name, signature in told.items():
            self.assertEqual(str(inspect.signature(vars(Hall)[name])), signature)
        self.assertEqual(str(inspect.signature(Hall)), "()")
        self.assertEqual(Hall.__module__, "wardweb.hall")
        self.assertIs(module.Hall, Hall)
        for name in ("__eq__", "__len__", "__repr__"):
            self.assertIn(name, vars(Hall))

    def test_handed_in_by_name(self):
        hall = Hall()
        self.assertIsNone(hall.do(deed=("web", "w", Web(1))))
        self.assertIsNone(hall.together(deeds=[("tree", "t", Web(1)), ("rule", "r", "w", "t")]))
        self.assertEqual(hall.web(name="w"), Web(1))
        self.assertEqual(hall.tree(name="t"), Web(1))
        self.assertEqual(hall.rule(name="r"), ("w", "t"))
        self.assertIs(hall.holds(name="r"), True)
        self.assertEqual(hall.papers(name="r"), [("t", ("lies", [0]))])
        self.assertIsNone(hall.undo())
        self.assertIsNone(hall.redo())

    def test_told_lists_are_new(self):
        hall = some_hall()
        for ask in (hall.webs, hall.trees, hall.rules, hall.holding, hall.broken, lambda: hall.papers("good"),
                    lambda: hall.papers("good")[0][1][1]):
            told = ask()
            again = list(told)
            told.append("x")
            self.assertEqual(ask(), again)

    def test_handed_things_are_not_kept_or_changed(self):
        hall = Hall()
        deeds = [("web", "w", Web(1)), ("tree", "t", Web(1))]
        hall.together(deeds)
        deeds.append(("drop", "w"))
        deeds[0] = None
        self.assertEqual(hall.webs(), ["w"])
        hall.undo()
        hall.redo()
        self.assertEqual((hall.webs(), hall.trees()), (["w"], ["t"]))
        deeds = [("web", "x", Web(1)), ("put", "x", ("a", 0, 0)), ("cut", "x", ("b", 0, 0))]
        again = list(deeds)
        refusal(NoTie, hall.together, deeds)
        self.assertEqual(deeds, again)
        arrows = [("a", 0, 1)]
        web = Web(2, arrows=arrows)
        hall.do(("web", "y", web))
        arrows.append(("b", 0, 0))
        hall.web("y").arrows().append(("c", 0, 0))
        hall.do(("put", "y", ("p", 1)))
        self.assertEqual((str(hall.web("y")), str(web)), ("2 0a1 p1", "2 0a1"))

    def test_deeds_as_a_tuple(self):
        hall = Hall()
        hall.together((("web", "w", Web(1)), ("point", "w")))
        self.assertEqual(hall.web("w"), Web(2))
        hall.together(())
        self.assertEqual(hall.depth(), (2, 0))


class Things(Judging):
    def test_new_webs_and_trees(self):
        hall = Hall()
        for name in ("w", "a", "zzzzzz", "web", "tree"):
            hall.do(("web", name, bare_ring(3)))
            self.assertEqual(hall.web(name), bare_ring(3))
        for name in ("t", "rule", "ward"):
            hall.do(("tree", name, path("a> p")))
            self.assertEqual(hall.tree(name), path("a> p"))
        self.assertEqual(hall.webs(), ["a", "tree", "w", "web", "zzzzzz"])
        self.assertEqual(hall.trees(), ["rule", "t", "ward"])

    def test_in_the_place_of_an_elder_one(self):
        hall = some_hall()
        self.assertEqual((hall.holding(), hall.broken()), (["bad", "good"], ["ill"]))
        hall.do(("web", "w", Web(3)))
        self.assertEqual(hall.web("w"), Web(3))
        self.assertEqual((hall.holding(), hall.broken()), (["bad"], ["good", "ill"]))
        hall.do(("tree", "line", Web(1)))
        hall.do(("tree", "pea", Web(1)))
        self.assertEqual(hall.holding(), ["bad", "good", "ill"])
        self.assertEqual(len(hall), 7)

    def test_bad_names(self):
        hall = some_hall()
        for name in BAD_NAMES:
            for deed in (("web", name, Web(1)), ("tree", name, path("a>")), ("tree", name, Web(0)),
                         ("make", name, "w"), ("make", name, "!"), ("rule", name, "w", "line"),
                         ("rule", name, "none", "!")):
                self.refused(hall, BadName, deed, name=name)

    def test_taken(self):
        hall = some_hall()
        for name in ("line", "good"):
            self.refused(hall, Taken, ("web", name, Web(1)), name=name)
            self.refused(hall, Taken, ("make", name, "!!"), name=name)
        for name in ("w", "good"):
            self.refused(hall, Taken, ("tree", name, path("a>")), name=name)
            self.refused(hall, Taken, ("tree", name, Web(0)), name=name)
        for name in ("w", "line"):
            self.refused(hall, Taken, ("rule", name, "w", "line"), name=name)
            self.refused(hall, Taken, ("rule", name, "none", ""), name=name)

    def test_no_tree_and_too_great_a_ward(self):
        for hall in (some_hall(), full_hall()):
            for name in ("new", hall.trees()[0]):
                for web in (Web(0), Web(2), read_web("1 0a0"), full_web(81)):
                    self.refused(hall, NotTree, ("tree", name, web))
                for web in (bare_star(65), path(" ".join(["a>"] * 8))):
                    self.refused(hall, TooMany, ("tree", name, web), bound=64)
        hall = Hall()
        hall.do(("tree", "t", bare_star(64)))
        self.assertEqual(hall.tree("t"), bare_star(64))
        # A web of any kind may be kept as a web.
        hall.do(("web", "w", bare_star(65)))
        hall.do(("web", "v", full_web(81)))

    def test_make(self):
        hall = some_hall()
        hall.do(("make", "new", "w + line * turn(v)"))
        self.assertEqual(hall.web("new"), made(read_plan("w + line * turn(v)"), {"w": hall.web("w"), "v": Web(2),
                                                                                  "line": path("a>")}))
        hall.do(("make", "w", " ( w )  "))
        self.assertEqual(hall.web("w"), read_web("3 0a1 1a2 p2"))
        hall.do(("make", "w", "w + []"))
        self.assertEqual(hall.web("w").points(), 4)
        hall.do(("make", "x", "ward(line)"))
        self.assertEqual(hall.web("x"), made(read_plan("ward([a>])"), {}))
        # What was made stays, whatever becomes of its parts.
        hall.do(("tree", "line", Web(1)))
        self.assertEqual(hall.web("x"), made(read_plan("ward([a>])"), {}))

    def test_make_refused(self):
        for hall in (some_hall(), full_hall()):
            for name in ("new", hall.webs()[0]):
                for plan, at in (("", 0), ("w +", 3), ("w w", 2), ("{2 0a5}", 0), ("x + {", 5), ("W", 0)):
                    self.refused(hall, BadText, ("make", name, plan), at=at)
                self.refused(hall, NoWeb, ("make", name, "none + ward({2})"), name="none")
                self.refused(hall, NoWeb, ("make", name, hall.rules()[0]), name=hall.rules()[0])
                self.refused(hall, NotTree, ("make", name, "ward({2}) + none"))
                self.refused(hall, TooMany, ("make", name, "below([a> a> a> a> a> a> a> a>])"), bound=64)
                self.refused(hall, TooMany, ("make", name, "lots({7})"), bound=81)
                self.refused(hall, TooMany, ("make", name, "least({7})"), bound=300000)

    def test_full(self):
        hall = full_hall()
        for deed in (("web", "new", Web(0)), ("tree", "new", Web(1)), ("make", "new", "wa")):
            self.refused(hall, Full, deed, bound=12)
        self.refused(hall, Full, ("rule", "new", "wa", "ta"), bound=8)
        hall.do(("web", "wa", Web(5)))
        hall.do(("tree", "ta", path("p")))
        hall.do(("make", "wb", "wa + wa"))
        hall.do(("rule", "ra", "wb", "tb"))
        self.assertEqual((len(hall), hall.web("wb"), hall.rule("ra")), (20, Web(10), ("wb", "tb")))
        hall.do(("drop", "tc"))
        hall.do(("web", "new", Web(0)))
        self.refused(hall, Full, ("tree", "tc", Web(1)), bound=12)
        hall.do(("drop", "rh"))
        hall.do(("rule", "rz", "wa", "ta"))
        self.refused(hall, Full, ("rule", "rh", "wa", "ta"), bound=8)
        self.assertEqual((len(hall.webs()), len(hall.trees()), len(hall.rules())), (9, 3, 8))

    def test_full_of_one_kind(self):
        hall = Hall()
        names = "abcdefghijkl"
        for name in names:
            hall.do(("web", name, Web(0)))
        self.refused(hall, Full, ("tree", "x", Web(1)), bound=12)
        hall.together([("drop", "a"), ("tree", "x", Web(1))])
        self.assertEqual(len(hall), 12)
        # Within one step, too, each deed must find room.
        refusal(Full, hall.together, [("web", "y", Web(1)), ("drop", "x")])
        for name in "opqrstuv":
            hall.do(("rule", name, "b", "x"))
        self.refused(hall, Full, ("rule", "w", "b", "x"), bound=8)
        self.assertEqual(len(hall), 20)

    def test_full_behind_all_other_refusals(self):
        hall = full_hall()
        self.refused(hall, BadName, ("web", "New", Web(0)), name="New")
        self.refused(hall, Taken, ("web", "ra", Web(0)), name="ra")
        self.refused(hall, NotTree, ("tree", "new", Web(0)))
        self.refused(hall, TooMany, ("tree", "new", bare_star(65)), bound=64)
        self.refused(hall, BadText, ("make", "new", "("), at=1)
        self.refused(hall, NoWeb, ("make", "new", "new"), name="new")
        self.refused(hall, NoWeb, ("rule", "new", "new", "ta"), name="new")
        self.refused(hall, BadText, ("rule", "new", "wa", "ta &"), at=4)
        self.refused(hall, NoTree, ("rule", "new", "wa", "wb"), name="wb")


class Changes(Judging):
    def test_point(self):
        hall = some_hall()
        hall.do(("point", "w"))
        self.assertEqual(str(hall.web("w")), "4 0a1 1a2 p2")
        hall.do(("web", "e", Web(0)))
        for many in range(1, 82):
            hall.do(("point", "e"))
            self.assertEqual(hall.web("e"), Web(many))
        self.refused(hall, TooMany, ("point", "e"), bound=81)
        for name in ("none", "line", "good", "", "NOT A NAME"):
            self.refused(hall, NoWeb, ("point", name), name=name)

    def test_put_and_cut(self):
        hall = Hall()
        hall.do(("web", "w", Web(2)))
        ties = [*[(colour, x, y) for colour in COLOURS for x in (1, 0) for y in (0, 1)],
                *[(mark, x) for mark in MARKS for x in (1, 0)]]
        for many, tie in enumerate(ties):
            self.refused(hall, errors.NoTie, ("cut", "w", tie), tie=tie)
            hall.do(("put", "w", tie))
            self.assertIn(tie, [*hall.web("w").arrows(), *hall.web("w").marks()])
            self.assertEqual(len([*hall.web("w").arrows(), *hall.web("w").marks()]), many + 1)
            self.refused(hall, Same, ("put", "w", tie), tie=tie)
        self.assertEqual(hall.web("w"), full_web(2))
        for tie in ties[::-1]:
            before = hall.web("w")
            hall.do(("cut", "w", tie))
            self.refused(hall, NoTie, ("cut", "w", tie), tie=tie)
            self.assertEqual(set([*before.arrows(), *before.marks()])
                             - set([*hall.web("w").arrows(), *hall.web("w").marks()]), {tie})
        self.assertEqual(hall.web("w"), Web(2))

    def test_bad_ties(self):
        hall = Hall()
        hall.do(("web", "w", full_web(2)))
        hall.do(("web", "e", Web(0)))
        for tie in (("a", 0), ("p", 0, 1), ("d", 0, 1), ("s", 0), ("", 0, 1), ("", 0), ("ab", 0, 1), ("pq", 1),
                    ("A", 0, 1), ("a",), ("p",), ("a", 0, 1, 0), ("p", 0, 0, 0), ("a", -1, 0), ("a", 0, -1),
                    ("a", 2, 0), ("a", 0, 2), ("p", -1), ("p", 2), ("a", FAR, 0), ("p", -FAR), ("abc", 0, 0),
                    ("a", 0, 0, 0, 0), ("a ", 0, 1), ("x",)):
            for word in ("put", "cut"):
                self.refused(hall, BadTie, (word, "w", tie), tie=tie)
                self.refused(hall, NoWeb, (word, "none", tie), name="none")
        for tie in (("a", 0, 0), ("p", 0)):
            self.refused(hall, BadTie, ("put", "e", tie), tie=tie)
            self.refused(hall, BadTie, ("cut", "e", tie), tie=tie)

    def test_trees_are_not_changed_so(self):
        hall = some_hall()
        for name in ("line", "good", "none", ""):
            for deed in (("point", name), ("put", name, ("a", 0, 0)), ("cut", name, ("a", 0, 1)), ("put", name, ("z",)),
                         ("fold", name, 0, 1), ("fold", name, 9, 9)):
                self.refused(hall, NoWeb, deed, name=name)

    def test_fold(self):
        hall = some_hall()
        web = hall.web("w")
        for one, other in ((0, 1), (1, 0), (0, 2), (2, 2), (1, 2)):
            hall.do(("fold", "w", one, other))
            self.assertEqual(hall.web("w"), folded(web, one, other))
            hall.undo()
        for one, other, number in ((3, 0, 3), (0, 3, 3), (-1, 5, -1), (5, -1, 5), (FAR, FAR, FAR), (0, -1, -1)):
            self.refused(hall, BadPoint, ("fold", "w", one, other), number=number)
        # Alike ones change nothing, but it is a step.
        before = hall.depth()
        hall.do(("fold", "w", 1, 1))
        self.assertEqual((hall.web("w"), hall.depth()[0]), (web, before[0] + 1))

    def test_great_webs(self):
        hall = Hall()
        hall.do(("web", "w", full_web(81)))
        hall.do(("cut", "w", ("b", 80, 3)))
        hall.do(("put", "w", ("b", 80, 3)))
        self.assertEqual(hall.web("w"), full_web(81))


class Rules(Judging):
    def test_as_it_is_written(self):
        hall = some_hall()
        for text in ("line", "  line&pea ", "((line))|(pea)", "!( line &(pea) )", "line | (pea | line)"):
            hall.do(("rule", "new", "v", text))
            self.assertEqual(hall.rule("new"), ("v", saying_text(read_saying(text))))
            self.assertIs(type(hall.rule("new")), tuple)

    def test_in_the_place_of_an_elder_one(self):
        hall = some_hall()
        hall.do(("rule", "good", "v", "!pea"))
        self.assertEqual(hall.rule("good"), ("v", "!pea"))
        self.assertEqual(hall.rules(), ["bad", "good", "ill"])

    def test_refusals_in_their_order(self):
        hall = some_hall()
        for name in ("new", "good"):
            for web in ("none", "line", "good", "", "BAD"):
                self.refused(hall, NoWeb, ("rule", name, web, "&"), name=web)
            self.refused(hall, BadText, ("rule", name, "w", "x &"), at=3)
            self.refused(hall, BadText, ("rule", name, "w", ""), at=0)
            self.refused(hall, BadText, ("rule", name, "w", "none none"), at=5)
            self.refused(hall, NoTree, ("rule", name, "w", "x | line & c"), name="c")
            self.refused(hall, NoTree, ("rule", name, "w", "w"), name="w")
            self.refused(hall, NoTree, ("rule", name, "w", "line & bad"), name="bad")
        self.refused(hall, NoTree, ("rule", "new", "w", "new"), name="new")

    def test_holds_and_papers(self):
        hall = some_hall()
        self.assertIs(hall.holds("good"), True)
        self.assertIs(hall.holds("ill"), False)
        self.assertEqual(hall.papers("good"), [("line", ("lies", [0, 1])), ("pea", ("lies", [2]))])
        self.assertEqual([name for name, _ in hall.papers("bad")], ["line", "pea"])
        for name in hall.rules():
            web, text = hall.rule(name)
            saying = read_saying(text)
            self.assertEqual([tree for tree, _ in hall.papers(name)], names_of(saying))
            for tree, told in hall.papers(name):
                self.assertTrue(paper_holds(hall.tree(tree), hall.web(web), told))
                self.assertEqual(told, paper(hall.tree(tree), hall.web(web)))
        self.assertIs(type(hall.papers("good")), list)
        self.assertIs(type(hall.papers("good")[0]), tuple)

    def test_behind_each_turn(self):
        hall = some_hall()
        hall.do(("cut", "w", ("p", 2)))
        self.assertEqual((hall.holding(), hall.broken()), (["bad"], ["good", "ill"]))
        self.assertEqual([told[0] for _, told in hall.papers("good")], ["lies", "shut"])
        hall.do(("put", "v", ("p", 0)))
        self.assertEqual((hall.holding(), hall.broken()), (["bad", "ill"], ["good"]))
        hall.do(("put", "v", ("a", 0, 0)))
        hall.do(("cut", "v", ("p", 0)))
        self.assertEqual((hall.holding(), hall.broken()), ([], ["bad", "good", "ill"]))
        for _ in range(4):
            hall.undo()
        self.assertEqual((hall.holding(), hall.broken()), (["bad", "good"], ["ill"]))
        hall.redo()
        self.assertEqual((hall.holding(), hall.broken()), (["bad"], ["good", "ill"]))

    def test_drop(self):
        hall = some_hall()
        for name in ("none", "", "GOOD", "abcdefgh"):
            self.refused(hall, NoThing, ("drop", name), name=name)
        self.refused(hall, InUse, ("drop", "w"), name="good")
        self.refused(hall, InUse, ("drop", "v"), name="bad")
        self.refused(hall, InUse, ("drop", "pea"), name="bad")
        self.refused(hall, InUse, ("drop", "line"), name="bad")
        hall.do(("drop", "bad"))
        self.refused(hall, InUse, ("drop", "line"), name="good")
        self.refused(hall, InUse, ("drop", "v"), name="ill")
        self.refused(hall, InUse, ("drop", "pea"), name="good")
        hall.do(("drop", "good"))
        hall.do(("drop", "w"))
        hall.do(("drop", "line"))
        self.refused(hall, InUse, ("drop", "pea"), name="ill")
        hall.together([("drop", "ill"), ("drop", "v"), ("drop", "pea")])
        self.assertEqual((len(hall), hall), (0, Hall()))
        hall.do(("tree", "w", Web(1)))
        self.assertEqual(hall.trees(), ["w"])

    def test_a_rule_in_another_place_sets_free(self):
        hall = some_hall()
        hall.do(("rule", "good", "v", "pea"))
        hall.do(("drop", "w"))
        self.refused(hall, InUse, ("drop", "line"), name="bad")

    def test_names_told_of_what_is_not_there(self):
        hall = some_hall()
        for name in ("none", "", "line", "good", "W"):
            self.assertEqual(refusal(NoWeb, hall.web, name).name, name)
        for name in ("none", "", "w", "good", "Line"):
            self.assertEqual(refusal(NoTree, hall.tree, name).name, name)
        for name in ("none", "", "w", "line", "GOOD"):
            for ask in (hall.rule, hall.holds, hall.papers):
                self.assertEqual(refusal(NoRule, ask, name).name, name)

    def test_many_papers(self):
        hall = full_hall()
        hall.do(("rule", "ra", "wh", " & ".join(["td", "tc", "!tb", "ta"] * 4)))
        self.assertEqual([name for name, _ in hall.papers("ra")], ["ta", "tb", "tc", "td"])


class NoDeeds(Judging):
    BAD = [((), None), ([], None), (None, None), ("web", None), (5, None), ({}, None), (Web(1), None),
           (["web", "x", Web(1)], None), (("webs", "x", Web(1)), "webs"), (("",), ""), ((5, "x"), 5),
           ((None, "x"), None), (([], 1), []), ((["web"], "x", Web(1)), ["web"]), (({"a": [1]},), {"a": [1]}),
           ((Web(2), 1), Web(2)), ((("web",), 1), ("web",)), (("Web", "x", Web(1)), "Web"),
           (("web", "x"), "web"), (("web", "x", Web(1), 0), "web"), (("web",), "web"), (("tree", "x"), "tree"),
           (("make", "x"), "make"), (("make", "x", "w", ""), "make"), (("point",), "point"),
           (("point", "w", 1), "point"), (("put", "w"), "put"), (("put", "w", "a", 0, 1), "put"),
           (("cut", "w"), "cut"), (("cut", "w", ("p", 0), 0), "cut"),
           (("fold", "w", 0), "fold"), (("fold", "w", 0, 1, 2), "fold"), (("rule", "r", "w"), "rule"),
           (("rule", "r", "w", "t", "t"), "rule"), (("drop",), "drop"), (("drop", "w", "v"), "drop"),
           (("undo",), "undo")]

    def test_alone(self):
        for deed, first in self.BAD:
            hall = some_hall()
            before = told_all(hall)
            found = refusal(BadDeed, hall.do, deed)
            self.assertEqual(found.first, first, deed)
            self.assertIs(type(found.first), type(first))
            self.assertEqual(told_all(hall), before)

    def test_ahead_of_all_wherever_it_stands(self):
        good = [("web", "x", Web(1)), ("drop", "none"), ("web", "BAD", Web(1))]
        for deed, first in self.BAD:
            hall = some_hall()
            before = told_all(hall)
            for at in range(4):
                found = refusal(BadDeed, hall.together, [*good[:at], deed, *good[at:], (7,)])
                self.assertEqual(found.first, first, deed)
                self.assertEqual(told_all(hall), before)

    def test_the_first_of_several(self):
        hall = Hall()
        self.assertEqual(refusal(BadDeed, hall.together, [("web", "w", Web(1)), ("one",), ("two",)]).first, "one")
        self.assertIsNone(refusal(BadDeed, hall.together, [(), ("two",)]).first)
        self.assertIsNone(refusal(BadDeed, hall.together, ("drop", "x")).first)

    def test_a_first_thing_that_is_changed_later(self):
        first = [1, [2]]
        found = refusal(BadDeed, Hall().do, (first, "x"))
        first[1].append(3)
        self.assertEqual(found.first, [1, [2]])


class Steps(Judging):
    def test_several_deeds_as_one(self):
        hall = some_hall()
        before = look(hall)
        hall.together([("point", "w"), ("put", "w", ("a", 2, 3)), ("web", "new", Web(4)), ("fold", "new", 0, 3),
                       ("make", "new", "new + line"), ("rule", "newr", "new", "line"), ("drop", "ill")])
        self.assertEqual(str(hall.web("w")), "4 0a1 1a2 2a3 p2")
        self.assertEqual(hall.web("new"), beside(Web(3), path("a>")))
        self.assertEqual(hall.rules(), ["bad", "good", "newr"])
        self.assertEqual(hall.depth(), (2, 0))
        after = look(hall)
        hall.undo()
        self.assertEqual((look(hall), hall.depth()), (before, (1, 1)))
        hall.redo()
        self.assertEqual((look(hall), hall.depth()), (after, (2, 0)))

    def test_refused_at_each_place(self):
        good = [("point", "w"), ("web", "x", Web(2)), ("put", "x", ("a", 0, 1)), ("tree", "t", path("q")),
                ("rule", "new", "x", "t | line"), ("drop", "ill"), ("make", "v", "x + x")]
        bad = {NoThing: ("drop", "none"), NoWeb: ("point", "none"), BadTie: ("put", "w", ("a", 0, 99)),
               NotTree: ("tree", "t", Web(0)), BadText: ("make", "y", "("), InUse: ("drop", "line")}
        for kind, deed in bad.items():
            for at in range(len(good) + 1):
                hall = some_hall()
                hall.do(("point", "w"))
                hall.undo()
                before = told_all(hall)
                refusal(kind, hall.together, [*good[:at], deed, *good[at:]])
                self.assertEqual(told_all(hall), before)
                self.assertEqual(hall, some_hall())
        hall = some_hall()
        hall.together(good)
        self.assertEqual(hall.depth(), (2, 0))

    def test_deeds_look_at_those_ahead(self):
        hall = Hall()
        hall.together([("web", "w", Web(1)), ("put", "w", ("p", 0))])
        self.assertEqual(str(hall.web("w")), "1 p0")
        self.assertEqual(refusal(Same, hall.together, [("put", "w", ("q", 0)), ("put", "w", ("q", 0))]).tie, ("q", 0))
        self.assertEqual(str(hall.web("w")), "1 p0")

    def test_no_deeds(self):
        hall = Hall()
        hall.together([])
        self.assertEqual(hall.depth(), (1, 0))
        hall.undo()
        self.assertEqual(hall.depth(), (0, 1))
        hall.redo()
        self.assertEqual(hall.depth(), (1, 0))
        hall.undo()
        hall.together([])
        self.assertEqual(hall.depth(), (1, 0))

    def test_back_and_again(self):
        hall = Hall()
        looks = [look(hall)]
        deeds = [("web", "w", Web(1)), ("tree", "t", path("a>")), ("rule", "r", "w", "!t"), ("put", "w", ("a", 0, 0)),
                 ("web", "w", Web(2)), ("drop", "r"), ("drop", "t")]
        for deed in deeds:
            hall.do(deed)
            looks.append(look(hall))
        for at in range(len(deeds) - 1, -1, -1):
            hall.undo()
            self.assertEqual((look(hall), hall.depth()), (looks[at], (at, len(deeds) - at)))
        refusal(NothingLeft, hall.undo)
        self.assertEqual((look(hall), hall.depth()), (looks[0], (0, len(deeds))))
        for at in range(1, len(deeds) + 1):
            hall.redo()
            self.assertEqual((look(hall), hall.depth()), (looks[at], (at, len(deeds) - at)))
        refusal(NothingLeft, hall.redo)
        self.assertEqual((look(hall), hall.depth()), (looks[-1], (len(deeds), 0)))

    def test_what_can_be_done_again_goes_with_the_next_step(self):
        hall = some_hall()
        hall.do(("point", "w"))
        hall.do(("point", "w"))
        hall.undo()
        hall.undo()
        self.assertEqual(hall.depth(), (1, 2))
        for deed in (("point", "none"), ("bad",), ("put", "w", ("a", 0, 1))):
            with self.assertRaises((errors.WebError, errors.Missing)):
                hall.do(deed)
            self.assertEqual(hall.depth(), (1, 2))
        hall.redo()
        self.assertEqual((hall.web("w").points(), hall.depth()), (4, (2, 1)))
        hall.do(("point", "v"))
        self.assertEqual((hall.web("w").points(), hall.depth()), (4, (3, 0)))
        refusal(NothingLeft, hall.redo)
        hall.undo()
        self.assertEqual((hall.web("w").points(), hall.web("v").points()), (4, 2))

    def test_nothing_left(self):
        hall = Hall()
        for call in (hall.undo, hall.redo):
            refusal(NothingLeft, call)
            self.assertEqual((hall.depth(), hall), ((0, 0), Hall()))

    def test_many_steps(self):
        hall = Hall()
        hall.do(("web", "w", Web(2)))
        for many in range(500):
            hall.do((("put", "cut")[many & 1], "w", ("a", 0, 1)))
        self.assertEqual(hall.depth(), (501, 0))
        for _ in range(501):
            hall.undo()
        self.assertEqual((hall, hall.depth()), (Hall(), (0, 501)))


class Twins(unittest.TestCase):
    def test_has_all(self):
        hall = some_hall()
        hall.do(("point", "w"))
        hall.do(("point", "w"))
        hall.undo()
        twin = hall.twin()
        self.assertIs(type(twin), Hall)
        self.assertEqual(told_all(twin), told_all(hall))
        self.assertEqual(twin, hall)
        while hall.depth()[0]:
            hall.undo()
            twin.undo()
            self.assertEqual(told_all(twin), told_all(hall))
        while hall.depth()[1]:
            hall.redo()
            twin.redo()
            self.assertEqual(told_all(twin), told_all(hall))

    def test_neither_changes_the_other(self):
        for changed in (0, 1):
            hall = some_hall()
            hall.do(("point", "w"))
            hall.undo()
            both = [hall, hall.twin()]
            before = told_all(both[1 - changed])
            for turn in (lambda one: one.redo(), lambda one: one.undo(), lambda one: one.undo(),
                         lambda one: one.redo(), lambda one: one.do(("put", "w", ("c", 0, 0))),
                         lambda one: one.do(("drop", "ill")), lambda one: one.together([])):
                turn(both[changed])
                self.assertEqual(told_all(both[1 - changed]), before)

    def test_of_an_empty_one(self):
        twin = Hall().twin()
        self.assertEqual((twin, twin.depth()), (Hall(), (0, 0)))


class Equal(unittest.TestCase):
    def test_by_what_they_keep(self):
        self.assertEqual(Hall(), Hall())
        one, other = some_hall(), some_hall()
        self.assertTrue(one == other)
        self.assertFalse(one != other)
        other.together([])
        self.assertTrue(one == other)
        for deed in (("web", "w", Web(3)), ("web", "x", Web(3)), ("tree", "pea", path("q")), ("tree", "x", Web(1)),
                     ("rule", "good", "v", "line & pea"), ("rule", "good", "w", "pea & line"), ("drop", "ill"),
                     ("rule", "x", "w", "pea"), ("put", "w", ("a", 0, 0))):
            other.do(deed)
            self.assertFalse(one == other, deed)
            self.assertTrue(one != other, deed)
            other.undo()
            self.assertTrue(one == other)

    def test_the_same_in_another_order(self):
        one, other = Hall(), Hall()
        deeds = [("web", "a", Web(1)), ("web", "b", Web(2)), ("tree", "c", Web(1)), ("tree", "d", path("p"))]
        one.together(deeds)
        other.together(deeds[::-1])
        self.assertEqual(one, other)
        self.assertEqual(look(one), look(other))

    def test_a_name_of_another_kind(self):
        one, other = Hall(), Hall()
        one.do(("web", "a", Web(1)))
        other.do(("tree", "a", Web(1)))
        self.assertNotEqual(one, other)

    def test_to_nothing_else(self):
        for thing in (None, 0, "", {}, [], (), Web(0), 7, "Hall(0 webs, 0 trees, 0 rules)"):
            self.assertFalse(Hall() == thing)
            self.assertTrue(Hall() != thing)

    def test_len_and_repr(self):
        self.assertEqual((len(Hall()), repr(Hall())), (0, "Hall(0 webs, 0 trees, 0 rules)"))
        hall = Hall()
        hall.together([("web", "w", Web(1)), ("web", "v", Web(1)), ("tree", "t", Web(1)), ("rule", "r", "w", "t")])
        self.assertEqual((len(hall), repr(hall)), (4, "Hall(2 webs, 1 trees, 1 rules)"))
        self.assertEqual((len(full_hall()), repr(full_hall())), (20, "Hall(8 webs, 4 trees, 8 rules)"))


class Plain:
    """A hall as the document tells it, as plainly as may be, without steps."""

    def __init__(self):
        self.webs, self.trees, self.rules = {}, {}, {}

    def due(self, deed):
        """The refusal that is due as (its word, its value), or None; and the deed is done."""
        word, name, *rest = deed
        return getattr(self, f"do_{word}")(name, *rest)

    def named(self, name, own):
        if not (name.isascii() and name.isalpha() and name.islower() and len(name) <= 6):
            return ("BadName", name)
        if any(name in rows for rows in (self.webs, self.trees, self.rules) if rows is not own):
            return ("Taken", name)
        return None

    def stored(self, own, most, others, name, thing):
        if name not in own and len(own) + len(others) == most:
            return ("Full", most)
        own[name] = thing
        return None

    def do_web(self, name, web):
        return self.named(name, self.webs) or self.stored(self.webs, 12, self.trees, name, web)

    def do_tree(self, name, web):
        if self.named(name, self.trees):
            return self.named(name, self.trees)
        if not is_tree(web):
            return ("NotTree", None)
        try:
            choices(web)
        except TooMany:
            return ("TooMany", 64)
        return self.stored(self.trees, 12, self.webs, name, web)

    def do_make(self, name, plan):
        if self.named(name, self.webs):
            return self.named(name, self.webs)
        try:
            web = made(read_plan(plan), {**self.webs, **self.trees})
        except (BadText, NoWeb, NotTree, TooMany) as refused:
            return worth(refused)
        return self.stored(self.webs, 12, self.trees, name, web)

    def do_point(self, name):
        if name not in self.webs:
            return ("NoWeb", name)
        web = self.webs[name]
        if web.points() == 81:
            return ("TooMany", 81)
        self.webs[name] = Web(web.points() + 1, arrows=web.arrows(), marks=web.marks())
        return None

    def tied(self, name, tie, there):
        if name not in self.webs:
            return ("NoWeb", name)
        web = self.webs[name]
        letter, points = tie[0], tie[1:]
        known = (len(points) == 2 and letter in ("a", "b", "c")) or (len(points) == 1 and letter in ("p", "q", "r"))
        if not known or any(point not in range(web.points()) for point in points):
            return ("BadTie", tie)
        if (tie in web.arrows() or tie in web.marks()) is not there:
            return ("NoTie" if there else "Same", tie)
        ties = set([*web.arrows(), *web.marks()]) ^ {tie}
        self.webs[name] = Web(web.points(), arrows=[one for one in ties if len(one) == 3],
                              marks=[one for one in ties if len(one) == 2])
        return None

    def do_put(self, name, tie):
        return self.tied(name, tie, False)

    def do_cut(self, name, tie):
        return self.tied(name, tie, True)

    def do_fold(self, name, one, other):
        if name not in self.webs:
            return ("NoWeb", name)
        for point in (one, other):
            if point not in range(self.webs[name].points()):
                return ("BadPoint", point)
        self.webs[name] = folded(self.webs[name], one, other)
        return None

    def do_rule(self, name, web, text):
        if self.named(name, self.rules):
            return self.named(name, self.rules)
        if web not in self.webs:
            return ("NoWeb", web)
        try:
            saying = read_saying(text)
        except BadText as refused:
            return worth(refused)
        for tree in names_of(saying):
            if tree not in self.trees:
                return ("NoTree", tree)
        return self.stored(self.rules, 8, {}, name, (web, saying))

    def do_drop(self, name):
        for rows in (self.webs, self.trees, self.rules):
            if name in rows:
                for rule, (web, saying) in sorted(self.rules.items()):
                    if name == web or name in names_of(saying):
                        return ("InUse", rule)
                del rows[name]
                return None
        return ("NoThing", name)

    def look(self):
        held = {name: truth(saying, self.trees, self.webs[web]) for name, (web, saying) in self.rules.items()}
        return ({name: str(web) for name, web in self.webs.items()},
                {name: str(web) for name, web in self.trees.items()},
                {name: (web, saying_text(saying)) for name, (web, saying) in self.rules.items()},
                sorted(name for name in held if held[name]), sorted(name for name in held if not held[name]),
                {name: [(tree, paper(self.trees[tree], self.webs[web])) for tree in names_of(saying)]
                 for name, (web, saying) in self.rules.items()},
                len(self.webs) + len(self.trees) + len(self.rules),
                f"Hall({len(self.webs)} webs, {len(self.trees)} trees, {len(self.rules)} rules)")

    def copy(self):
        other = Plain()
        other.webs, other.trees, other.rules = dict(self.webs), dict(self.trees), dict(self.rules)
        return other


def worth(refused):
    values = [value for key, value in vars(refused).items() if key != "word"]
    return (refused.word, values[0] if values else None)


class ByTheWords(unittest.TestCase):
    WEBS = [Web(0), Web(1), Web(2), path("a> p"), bare_ring(3), path("a> b<"), Web(81), read_web("2 0a1 p1")]
    TREES = [Web(1), path("a>"), path("p"), path("a> b<"), path("q a> p"), bare_star(65), Web(2)]
    SAYINGS = ["{0}", "!{0}", "{0} & {1}", "{0}|{1}", "!({0} | {1}) & {0}", "{0} {1}", "{0} &", "none | {0}"]
    PLANS = ["{0}", "{0} + {1}", "{0} * {1}", "{0} ^ {1}", "turn({0})", "least({0})", "lots({0})", "ward({0})", "{0} +",
             "below({0})", "[a> p] + {1}", "{{1}} * {0}"]

    def some_deed(self, dice, names, plain):
        def chosen(rows):
            """Mostly a name that stands for such a thing."""
            return dice.choice(sorted(rows)) if rows and dice.random() < 0.85 else dice.choice(names)

        fresh, web, tree = dice.choice(names), chosen(plain.webs), chosen(plain.trees)
        rule = chosen(plain.rules) if dice.random() < 0.5 else fresh
        point = dice.choice((0, 0, 1, 1, 2, 3, -1))
        tie = dice.choice((("a", point, 0), ("a", 0, point), ("b", 1, 1), ("p", point), ("q", 0), ("z", 0),
                           ("p", 0, 0)))
        saying = dice.choice(self.SAYINGS).format(tree, chosen(plain.trees))
        plan = dice.choice(self.PLANS).format(dice.choice((web, tree)), chosen(plain.webs))
        return dice.choice([("web", dice.choice((fresh, web)), dice.choice(self.WEBS)),
                            ("tree", dice.choice((fresh, tree)), dice.choice(self.TREES)),
                            ("make", dice.choice((fresh, web)), plan), ("point", web), ("put", web, tie),
                            ("put", web, tie), ("cut", web, tie), ("fold", web, point, dice.choice((0, 1, 2))),
                            ("rule", rule, web, saying), ("rule", rule, web, saying),
                            ("drop", dice.choice((fresh, web, tree, rule)))])

    def test_many_steps(self):
        ended = {}
        for seed in range(12):
            dice = random.Random(700 + seed)
            few = [f"{letter}{more}" for letter in "abcdefghijkl" for more in ("", "x", "y")]
            names = [*few[:dice.choice((9, 21, 36))], "Bad"]
            hall, past, future, plain = Hall(), [], [], Plain()
            for _ in range(250):
                turn = dice.random()
                if turn < 0.08 and past:
                    hall.undo()
                    future.append(plain)
                    plain = past.pop()
                elif turn < 0.14 and future:
                    hall.redo()
                    past.append(plain)
                    plain = future.pop()
                else:
                    deeds = [self.some_deed(dice, names, plain) for _ in range(dice.choice((1, 1, 1, 2, 3)))]
                    trial = plain.copy()
                    due = next((found for found in map(trial.due, deeds) if found), None)
                    try:
                        hall.together(deeds)
                    except (errors.WebError, errors.Missing) as refused:
                        self.assertEqual(worth(refused), due, deeds)
                        ended[refused.word] = ended.get(refused.word, 0) + 1
                    else:
                        self.assertIsNone(due, deeds)
                        past.append(plain)
                        plain, future = trial, []
                self.assertEqual(hall.depth(), (len(past), len(future)))
                self.assertEqual(look(hall), plain.look())
        self.assertEqual(set(ended), {"BadName", "Taken", "NotTree", "TooMany", "Full", "BadText", "NoWeb", "BadTie",
                                      "Same", "NoTie", "BadPoint", "NoTree", "NoThing", "InUse"})


if __name__ == "__main__":
    unittest.main()

"""Sayings: read, written, judged, and brought to clauses: [15], [16]."""

import ast
import inspect
import itertools
import random
import re
import unittest

from samples import bare_ring, bare_star, full_web, plain_maps, refusal, some_trees, some_webs
from wardweb import sayings
from wardweb.errors import BadSaying, BadText, NoTree, NotTree, TooMany
from wardweb.made import beside, path
from wardweb.maps import is_map
from wardweb.sayings import barred, clauses, names_of, read_saying, saying_text, truth
from wardweb.trees import lay
from wardweb.wards import into_ward, ward
from wardweb.webs import Web, read_web

NAMES = [f"{first}{second}" for first in "qrst" for second in "wxyz"]


def tree(name):
    return ("tree", name)


def plain_good(text):
    """The saying of a good text, or None, by Python's own reading of ~, & and |, which bind likewise."""
    if not re.fullmatch(r"[a-z!&|() ]*", text) or re.search(r"[a-z]{7}", text) or text.count("!") > 12:
        return None
    within = [text[:end].count("(") - text[:end].count(")") for end in range(len(text) + 1)]
    if max(within) > 12 or len(re.findall(r"[a-z]+", text)) > 16:
        return None
    try:
        parsed = ast.parse(re.sub(r"([a-z]+)", r"n_\1", text.replace("!", "~")).strip(), mode="eval")
    except SyntaxError:
        return None
    return plain_saying(parsed.body)


def plain_saying(node):
    if isinstance(node, ast.Name):
        return ("tree", node.id[2:])
    if isinstance(node, ast.UnaryOp):
        one = plain_saying(node.operand)
        return None if one is None else ("not", one)
    if not isinstance(node, ast.BinOp):
        return None
    one, other = plain_saying(node.left), plain_saying(node.right)
    if one is None or other is None:
        return None
    return ("and" if isinstance(node.op, ast.BitAnd) else "or", one, other)


def plain_goes_on(text):
    """Whether some saying begins so: if any does, one does that ends soon."""
    closing = ")" * max(text.count("(") - text.count(")"), 0)
    return plain_good(text + closing) is not None or plain_good(text + "a" + closing) is not None


def plain_at(text):
    """The number that BadText bears, or None of a good text."""
    if plain_good(text) is not None:
        return None
    for at in range(len(text)):
        if not plain_goes_on(text[:at + 1]):
            return at
    return len(text)


def some_saying(dice, names, words=("and", "or", "not"), nots=6):
    """A saying with each of the names in a place of its own."""
    parts = [tree(name) for name in names]
    while len(parts) > 1 or (nots > 0 and "not" in words and dice.random() < 0.3):
        word = dice.choice(words)
        at = dice.randrange(len(parts))
        if word == "not":
            if nots > 0:
                parts[at] = ("not", parts[at])
                nots -= 1
        elif at + 1 < len(parts):
            parts[at:at + 2] = [(word, parts[at], parts[at + 1])]
    return parts[0]


def some_sayings(seed, many, most_names, names=NAMES, words=("and", "or", "not")):
    dice = random.Random(seed)
    return [some_saying(dice, [dice.choice(names) for _ in range(dice.randint(1, most_names))], words)
            for _ in range(many)]


def wide_text(dice, saying):
    """A text of the saying with more brackets and blanks, or fewer blanks."""
    def blanks():
        return " " * dice.choice((0, 0, 1, 3))
    if saying[0] == "tree":
        text = saying[1]
    elif saying[0] == "not":
        inner = wide_text(dice, saying[1])
        text = "!" + blanks() + (inner if saying[1][0] in ("tree", "not") else f"({inner})")
    else:
        sign = {"and": "&", "or": "|"}[saying[0]]
        text = f"({wide_text(dice, saying[1])}){blanks()}{sign}{blanks()}({wide_text(dice, saying[2])})"
    if dice.random() < 0.1:
        text = f"({text})"
    return blanks() + text + blanks()


def deepest(text):
    return max(text[:end].count("(") - text[:end].count(")") for end in range(len(text) + 1))


class Interface(unittest.TestCase):
    def test_names_of_what_is_handed_in(self):
        told = {"read_saying": "(text)", "saying_text": "(saying)", "names_of": "(saying)",
                "truth": "(saying, trees, web)", "clauses": "(saying)", "barred": "(saying, trees, web)"}
        for name, signature in told.items():
            self.assertEqual(str(inspect.signature(getattr(sayings, name))), signature)
            self.assertEqual(getattr(sayings, name).__module__, "wardweb.sayings")

    def test_handed_in_by_name(self):
        trees = {"x": path("p")}
        self.assertEqual(read_saying(text="x"), tree("x"))
        self.assertEqual(saying_text(saying=tree("x")), "x")
        self.assertEqual(names_of(saying=tree("x")), ["x"])
        self.assertIs(truth(web=path("p"), trees=trees, saying=tree("x")), True)
        self.assertEqual(clauses(saying=tree("x")), [["x"]])
        self.assertEqual(barred(web=Web(0), trees=trees, saying=tree("x")), (["x"], [[]]))

    def test_told_lists_are_new_and_handed_things_stay(self):
        saying = read_saying("(x | y) & z & y")
        trees = {"x": path("p"), "y": path("a>"), "z": path("q"), "no": Web(5)}
        web = path("q b> q")
        before = [(name, str(one)) for name, one in trees.items()]
        for ask in (lambda: names_of(saying), lambda: clauses(saying), lambda: barred(saying, trees, web)[0],
                    lambda: barred(saying, trees, web)[1], lambda: barred(saying, trees, web)[1][0],
                    lambda: clauses(saying)[0]):
            told = ask()
            again = list(told)
            told.append(5)
            self.assertEqual(ask(), again)
        truth(saying, trees, web)
        self.assertEqual([(name, str(one)) for name, one in trees.items()], before)
        self.assertEqual(str(web), "2 0b1 q0 q1")


class Read(unittest.TestCase):
    def test_one_name(self):
        for name in ("a", "z", "tree", "not", "and", "or", "abcdef", "zzzzzz"):
            self.assertEqual(read_saying(name), ("tree", name))
            self.assertEqual(read_saying(f"({name})"), ("tree", name))
            self.assertEqual(read_saying(f"  (( {name}  ) )   "), ("tree", name))

    def test_how_close_signs_bind(self):
        a, b, c = tree("a"), tree("b"), tree("c")
        told = {"a & b": ("and", a, b), "a | b": ("or", a, b), "!a": ("not", a), "!!a": ("not", ("not", a)),
                "a & b & c": ("and", ("and", a, b), c), "a | b | c": ("or", ("or", a, b), c),
                "a | b & c": ("or", a, ("and", b, c)), "a & b | c": ("or", ("and", a, b), c),
                "!a & b": ("and", ("not", a), b), "!a | b": ("or", ("not", a), b), "a & !b": ("and", a, ("not", b)),
                "!(a & b)": ("not", ("and", a, b)), "a & (b | c)": ("and", a, ("or", b, c)),
                "a & (b & c)": ("and", a, ("and", b, c)), "a | (b | c)": ("or", a, ("or", b, c)),
                "(a | b) & c": ("and", ("or", a, b), c), "!!(a | !b)": ("not", ("not", ("or", a, ("not", b))))}
        for text, saying in told.items():
            self.assertEqual(read_saying(text), saying, text)
            self.assertEqual(saying_text(saying), text)

    def test_blanks_left_out_and_more_of_them(self):
        plain = read_saying("a & !(b | cd) | e")
        for text in ("a&!(b|cd)|e", " a & !(b | cd) | e", "a & !(b | cd) | e ", "   a&  ! ( b| cd )  |e    ",
                     "a & ! ( b | cd ) | e", "((a)) & (!(b | ((cd)))) | (e)", "( a & !(b | cd) ) | e"):
            self.assertEqual(read_saying(text), plain, text)
            self.assertEqual(saying_text(read_saying(text)), "a & !(b | cd) | e")

    def test_there_and_back(self):
        dice = random.Random(201)
        for saying in some_sayings(202, 400, 8):
            text = saying_text(saying)
            self.assertEqual(plain_good(text), saying)
            self.assertEqual(read_saying(text), saying)
            wide = wide_text(dice, saying)
            if deepest(wide) <= 12:
                self.assertEqual(read_saying(wide), saying, wide)

    def test_brackets_just_where_needed(self):
        for saying in some_sayings(203, 200, 7):
            text = saying_text(saying)
            self.assertNotRegex(text, r"  |^ | $|\( | \)|! |[a-z][&|]|[&|][a-z(!]")
            for at, sign in enumerate(text):
                if sign == "(":
                    end = min(stop for stop in range(at, len(text)) if text[at:stop + 1].count("(")
                              == text[at:stop + 1].count(")"))
                    self.assertNotEqual(plain_good(text[:at] + text[at + 1:end] + text[end + 1:]), saying, text)

    def test_tuples(self):
        def judge(saying):
            self.assertIs(type(saying), tuple)
            for part in saying[1:]:
                if not isinstance(part, str):
                    judge(part)
        judge(read_saying("!(a | b) & c & !!d"))


class Refused(unittest.TestCase):
    def judge(self, text, at):
        self.assertEqual(refusal(BadText, read_saying, text).at, at, text)
        if len(text) < 200:
            self.assertEqual(plain_at(text), at, text)

    def test_ends_too_soon(self):
        for text in ("", " ", "     ", "!", "a &", "a & ", "(", "(a", "( a ", "a | !", "((a)", "a&(b|", "!(", "(a)&"):
            self.judge(text, len(text))

    def test_signs_that_no_saying_has(self):
        for sign in "A1_-+*^{}[],.;:?'\"#$~<>=/\\@`\n":
            self.judge(sign, 0)
            self.judge(f"a {sign}", 2)
            self.judge(f"a & {sign}b", 4)
            self.judge(f"(a{sign})", 2)
            self.judge(f"a & b{sign}", 5)
            self.judge(f"a{sign} & b", 1)

    def test_names_too_long(self):
        self.judge("abcdefg", 6)
        self.judge("abcdefghijk", 6)
        self.judge("a & abcdefg & b", 10)
        self.judge("!(abcdefg", 8)
        self.judge("abcdef abcdefg", 7)

    def test_parts_side_by_side(self):
        self.judge("a b", 2)
        self.judge("a  b & c", 3)
        self.judge("a(b)", 1)
        self.judge("(a)b", 3)
        self.judge("(a) (b)", 4)
        self.judge("a !b", 2)
        self.judge("a!b", 1)
        self.judge("a! & b", 1)

    def test_signs_side_by_side(self):
        self.judge("a && b", 3)
        self.judge("a & | b", 4)
        self.judge("& a", 0)
        self.judge(" | a", 1)
        self.judge("!& a", 1)
        self.judge("(& a)", 1)
        self.judge("a &", 3)
        self.judge("(a &) b", 4)

    def test_brackets(self):
        self.judge("a)", 1)
        self.judge(")", 0)
        self.judge("()", 1)
        self.judge("( )", 2)
        self.judge("(a))", 3)
        self.judge("((a)", 4)
        self.judge("(a & b", 6)
        self.judge("a & b)", 5)
        self.judge("!)", 1)

    def test_brackets_within_one_another(self):
        self.assertEqual(read_saying("(" * 12 + "a" + ")" * 12), tree("a"))
        self.judge("(" * 13 + "a" + ")" * 13, 12)
        self.judge("(" * 13, 12)
        self.judge(" ( " * 13, 37)
        self.judge("a & " + "(" * 13 + "b" + ")" * 13, 16)
        # Side by side there may be more.
        self.assertEqual(names_of(read_saying(" & ".join(["((a))"] * 16))), ["a"])
        deep = "(" * 12 + "a" + ")" * 12
        self.assertEqual(read_saying(f"{deep} | {deep}"), ("or", tree("a"), tree("a")))
        self.assertEqual(read_saying("!(" * 12 + "a" + ")" * 12)[0], "not")

    def test_sixteen_names(self):
        text = " & ".join(NAMES)
        self.assertEqual(names_of(read_saying(text)), NAMES)
        self.assertEqual(saying_text(read_saying(text)), text)
        self.assertEqual(saying_text(read_saying(" | ".join(["a"] * 16) + "   ")), " | ".join(["a"] * 16))
        self.assertEqual(read_saying("(" + text + ") "), read_saying(text))

    def test_seventeen_names(self):
        text = " & ".join(["a"] * 16)
        for more in ("& a", "|", "&"):
            self.judge(f"{text} {more}", len(text) + 1)
            self.judge(f"{text}{more}", len(text))
        self.judge(" & ".join(["a"] * 17), len(text) + 1)
        self.judge("(" + text + ") & a", len(text) + 3)
        self.judge("(" + text + " & a)", len(text) + 2)
        self.judge(text + " b", len(text) + 1)
        self.judge("(" + text, len(text) + 1)
        self.judge(text + "abcdef", len(text) + 5)

    def test_nots(self):
        saying = tree("a")
        for _ in range(12):
            saying = ("not", saying)
        self.assertEqual(read_saying("!" * 12 + "a"), saying)
        self.assertEqual(saying_text(saying), "!" * 12 + "a")
        self.judge("!" * 13 + "a", 12)
        self.judge("!" * 13, 12)
        self.judge(" & ".join(["!a"] * 13), 60)
        self.assertEqual(saying_text(read_saying(" & ".join(["!a"] * 12))), " & ".join(["!a"] * 12))
        self.judge("!" * 12 + "a | !b", 16)
        self.judge("!(" * 13 + "a" + ")" * 13, 24)
        self.judge("!" * 12, 12)

    def test_many_texts_by_the_words(self):
        dice = random.Random(204)
        bits = ["a", "bc", "&", "|", "!", "(", ")", " ", "  ", " & ", " | ", "(a", "b)", "abcdef", "?", "!!"]
        for _ in range(3000):
            text = "".join(dice.choice(bits) for _ in range(dice.randint(0, 12)))
            at = plain_at(text)
            if at is None:
                self.assertEqual(read_saying(text), plain_good(text), text)
            else:
                self.judge(text, at)

    def test_bent_texts_by_the_words(self):
        dice = random.Random(205)
        for saying in some_sayings(206, 150, 6, NAMES + ["a", "longer"]):
            text = wide_text(dice, saying)
            at = dice.randrange(len(text))
            for bent in (text[:at] + text[at + 1:], text[:at] + dice.choice("a&|!() x") + text[at:], text[:at],
                         text[:at] + dice.choice("a&|!()") + text[at + 1:]):
                at_of = plain_at(bent)
                if at_of is None:
                    self.assertEqual(read_saying(bent), plain_good(bent), bent)
                else:
                    self.judge(bent, at_of)

    def test_long_texts(self):
        self.assertEqual(read_saying(" " * 3999 + "a"), tree("a"))
        self.judge(" " * 4000, 4000)
        self.judge("a" * 4000, 6)
        self.judge("(" * 4000, 12)
        self.judge("a&" * 2000, 31)


class Names(unittest.TestCase):
    def test_rising_each_once(self):
        self.assertEqual(names_of(tree("x")), ["x"])
        self.assertEqual(names_of(read_saying("b & a | !b & (c | a)")), ["a", "b", "c"])
        self.assertEqual(names_of(read_saying("zz | z | a | aa")), ["a", "aa", "z", "zz"])
        self.assertEqual(names_of(read_saying(" & ".join(["b", "a"] * 8))), ["a", "b"])
        self.assertEqual(names_of(read_saying("!!!tree")), ["tree"])


def plain_truth(saying, found):
    if saying[0] == "tree":
        return found[saying[1]]
    parts = [plain_truth(part, found) for part in saying[1:]]
    return {"not": not parts[0], "and": all(parts), "or": any(parts)}[saying[0]]


class Truth(unittest.TestCase):
    TREES = {"x": path("p"), "y": path("a>"), "z": path("a> a>"), "w": path("b<")}

    def test_by_hand(self):
        web = path("p a> b>")
        for text, told in (("x", True), ("z", False), ("!z", True), ("x & y", True), ("x & z", False),
                           ("x | z", True), ("z | !x", False), ("!(x & y)", False), ("!x | w & y", True),
                           ("!!x", True), ("z | z", False), ("!z & !z & w", True)):
            self.assertIs(truth(read_saying(text), self.TREES, web), told, text)

    def test_all_truths(self):
        names = ["x", "y", "z", "w"]
        webs = [Web(0), path("p"), path("a>"), path("a> a>"), path("b>"), path("p a>"), path("p a> a> b>"),
                path("p b>"), path("a> b>"), path("a> a> b>"), path("p a> b<"), path("p a> a>"), full_web(1)]
        for saying in some_sayings(211, 100, 6, names):
            for web in webs:
                found = {name: len(plain_maps(self.TREES[name], web)) > 0 for name in names}
                self.assertIs(truth(saying, self.TREES, web), plain_truth(saying, found))

    def test_no_tree_so_called(self):
        saying = read_saying("m & (z | b) | !x")
        self.assertEqual(refusal(NoTree, truth, saying, {}, Web(0)).name, "b")
        self.assertEqual(refusal(NoTree, truth, saying, {"b": path("")}, Web(0)).name, "m")
        self.assertEqual(refusal(NoTree, truth, saying, {"m": path(""), "b": path(""), "x": Web(1)}, Web(1)).name, "z")
        # Looked at ahead of what is no tree, and where the saying would be judged without it, too.
        self.assertEqual(refusal(NoTree, truth, saying, {"b": Web(0), "m": Web(2), "x": Web(0)}, Web(1)).name, "z")
        self.assertEqual(refusal(NoTree, truth, read_saying("a | b"), {"a": path("")}, Web(1)).name, "b")
        self.assertEqual(refusal(NoTree, truth, read_saying("b & a"), {"b": path("p")}, Web(1)).name, "a")

    def test_no_trees(self):
        for web in (Web(0), Web(2), read_web("1 0a0"), bare_ring(3)):
            trees = {"a": path(""), "b": web}
            refusal(NotTree, truth, read_saying("a | b"), trees, Web(1))
            refusal(NotTree, truth, read_saying("!b"), trees, Web(1))
            self.assertIs(truth(read_saying("a"), trees, Web(1)), True)
            self.assertIs(truth(read_saying("!a"), trees, Web(1)), False)

    def test_great_trees(self):
        # No ward is looked at, so none is too great.
        trees = {"s": bare_star(80), "l": path(" ".join(["a>"] * 80))}
        self.assertIs(truth(read_saying("s & !l"), trees, path("a>")), True)
        self.assertIs(truth(read_saying("s & l"), trees, full_web(81)), True)


def plain_clauses(saying):
    def lots(one):
        if one[0] == "tree":
            return {frozenset([one[1]])}
        if one[0] == "and":
            return lots(one[1]) | lots(one[2])
        return {x | y for x in lots(one[1]) for y in lots(one[2])}
    told = lots(saying)
    return sorted(sorted(lot) for lot in told if not any(other < lot for other in told))


class Clauses(unittest.TestCase):
    def test_by_hand(self):
        told = {"a": [["a"]], "a & b": [["a"], ["b"]], "b | a": [["a", "b"]], "a & a": [["a"]], "a | a": [["a"]],
                "a | b & c": [["a", "b"], ["a", "c"]], "a & (b | c)": [["a"], ["b", "c"]],
                "a & (a | b)": [["a"]], "a | a & b": [["a"]], "(a | b) & (b | a)": [["a", "b"]],
                "a & b | c & d": [["a", "c"], ["a", "d"], ["b", "c"], ["b", "d"]],
                "a & b | a & c": [["a"], ["b", "c"]], "a & b | b & c | a & c": [["a", "b"], ["a", "c"], ["b", "c"]],
                "(a | b) & (a | b | c) & d": [["a", "b"], ["d"]], "b & a": [["a"], ["b"]],
                "aa | b & a": [["a", "aa"], ["aa", "b"]]}
        for text, lots in told.items():
            self.assertEqual(clauses(read_saying(text)), lots, text)

    def test_by_the_words(self):
        for saying in some_sayings(221, 200, 8, ["a", "b", "c", "d", "e"], ("and", "or")):
            self.assertEqual(clauses(saying), plain_clauses(saying), saying_text(saying))

    def test_sixteen_names(self):
        told = clauses(read_saying(" | ".join(f"{one}a & {one}b & {one}c" for one in "vwxyz") + " | u"))
        self.assertEqual(len(told), 3 ** 5)
        self.assertEqual(told, sorted(["u", *lot] for lot in itertools.product(
            *[[f"{one}{end}" for end in "abc"] for one in "vwxyz"])))
        self.assertEqual(clauses(read_saying(" | ".join(NAMES))), [NAMES])
        self.assertEqual(clauses(read_saying(" & ".join(NAMES))), [[name] for name in NAMES])

    def test_kinds(self):
        told = clauses(read_saying("a & (b | c)"))
        self.assertIs(type(told), list)
        self.assertEqual({type(clause) for clause in told}, {list})

    def test_a_not(self):
        for text in ("!a", "a & !b", "!a | b", "a & (b | !(c))", "!!a", "!(a & b)", "b | (a & (c & !d))"):
            refusal(BadSaying, clauses, read_saying(text))

    def test_true_just_where_of_each_some_tree_goes_in(self):
        names = ["a", "b", "c", "d"]
        for saying in some_sayings(222, 60, 6, names, ("and", "or")):
            for some in itertools.product((True, False), repeat=4):
                found = dict(zip(names, some))
                self.assertIs(plain_truth(saying, found),
                              all(any(found[name] for name in clause) for clause in clauses(saying)))


class Barred(unittest.TestCase):
    def judge(self, saying, trees, web):
        told = barred(saying, trees, web)
        if truth(saying, trees, web):
            self.assertIsNone(told)
            return True
        self.assertIs(type(told), tuple)
        clause, maps = told
        self.assertIn(clause, clauses(saying))
        self.assertEqual(len(maps), len(clause))
        for name, images in zip(clause, maps):
            self.assertIsNone(lay(trees[name], web))
            self.assertIs(type(images), list)
            self.assertTrue(is_map(web, ward(trees[name]), images))
        self.assertEqual(barred(saying, trees, web), told)
        return False

    def test_by_hand(self):
        trees = {"x": path("p"), "y": path("a>"), "z": path("a> a>")}
        self.assertIsNone(barred(read_saying("x"), trees, path("p")))
        self.assertEqual(barred(read_saying("x"), trees, path("q")), (["x"], [[0]]))
        self.assertEqual(barred(read_saying("x & y | z"), trees, path("a>")),
                         (["x", "z"], [[0, 0], into_ward(trees["z"], path("a>"))]))
        self.assertEqual(barred(read_saying("z | y | x"), trees, Web(0)), (["x", "y", "z"], [[], [], []]))

    def test_many(self):
        names = ["a", "b", "c", "d", "e"]
        dice = random.Random(231)
        small = [tree for tree in some_trees(232, 40, 4, "ab", 0.1) if tree.points() > 1]
        webs = [*some_webs(233, 6, 5, 0.1), *some_webs(234, 3, 3, 0.4), path("a> b> a<"), Web(0)]
        both = {True: 0, False: 0}
        for saying in some_sayings(235, 40, 7, names, ("and", "or")):
            trees = {name: dice.choice(small) for name in names}
            for web in webs:
                both[self.judge(saying, trees, web)] += 1
        self.assertGreater(min(both.values()), 40)

    def test_refusals_in_their_order(self):
        great, none, good = bare_star(65), Web(2), path("p")
        web = full_web(2)
        refusal(BadSaying, barred, read_saying("!a & b & c"), {"b": none, "c": great}, web)
        saying = read_saying("d & c & (b | a)")
        self.assertEqual(refusal(NoTree, barred, saying, {"a": none, "d": great}, web).name, "b")
        self.assertEqual(refusal(NoTree, barred, saying, {"b": none, "d": great, "c": good}, web).name, "a")
        refusal(NotTree, barred, saying, {"a": great, "b": good, "c": good, "d": none}, web)
        refusal(NotTree, barred, saying, {"a": none, "b": good, "c": good, "d": great}, web)
        for at in "abcd":
            trees = {"a": good, "b": good, "c": good, "d": good}
            trees[at] = great
            self.assertEqual(refusal(TooMany, barred, saying, trees, web).bound, 64)
            self.assertEqual(refusal(TooMany, barred, saying, trees, Web(0)).bound, 64)
        # Names that the saying hasn't don't matter.
        self.assertIsNone(barred(read_saying("a"), {"a": good, "b": none, "c": great}, web))
        self.assertEqual(barred(read_saying("a"), {"a": good, "b": none, "c": great}, Web(1)), (["a"], [[0]]))

    def test_wards_of_sixty_four(self):
        trees = {"s": bare_star(64), "l": path("a> a> a> a> a> a> a>")}
        self.assertTrue(self.judge(read_saying("s & l"), trees, full_web(81)))
        self.assertFalse(self.judge(read_saying("s | l"), trees, Web(81)))
        self.assertFalse(self.judge(read_saying("s & l"), trees, beside(path("a> a> a>"), bare_star(60))))


if __name__ == "__main__":
    unittest.main()

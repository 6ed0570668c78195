"""Plans: read, written and carried out: [22]."""

import ast
import inspect
import random
import re
import unittest

from samples import bare_ring, bare_star, full_web, refusal
from wardweb import plans
from wardweb.errors import BadText, NotTree, NoWeb, TooMany
from wardweb.least import least_part
from wardweb.made import beside, kept, lots, path, power, times, turned
from wardweb.plans import made, plan_text, read_plan
from wardweb.wards import below, ward
from wardweb.webs import Web, read_web

WORDS = ("ward", "below", "lots", "turn", "least")
NAMES = ["a", "b", "zz", "abcdef", *WORDS]
# Python's own signs that bind in the same order, from the left.
SIGNS = {"+": "|", "*": "^", "^": "&"}
NODES = {ast.BitOr: "+", ast.BitXor: "*", ast.BitAnd: "^"}


def name(word):
    return ("name", word)


def enclosed(text, at):
    """The part of {..} or [..] that begins there and the place behind it, or None where it is no such text."""
    end = text.find({"{": "}", "[": "]"}[text[at]], at)
    kind, read = ("web", read_web) if text[at] == "{" else ("path", path)
    try:
        read(text[at + 1:end])
    except BadText:
        return None
    return (kind, text[at + 1:end]), end + 1


def plain_good(text):
    """The plan of a good text, or None; Python reads it, with its own signs and plain names."""
    parts, bare, at = [], "", 0
    while at < len(text):
        if text[at] in "{[":
            if text.find({"{": "}", "[": "]"}[text[at]], at) < 0 or enclosed(text, at) is None:
                return None
            part, at = enclosed(text, at)
            parts.append(part)
            bare += f" E{len(parts) - 1} "
            continue
        found = re.match(r"[a-z]+", text[at:])
        if found:
            if len(found.group()) > 6:
                return None
            bare += f"n_{found.group()}"
            at += len(found.group())
        elif text[at] in " ()+*^":
            bare += SIGNS.get(text[at], text[at])
            at += 1
        else:
            return None
    within = [bare[:end].count("(") - bare[:end].count(")") for end in range(len(bare) + 1)]
    if max(within) > 8:
        return None
    bare = bare.strip()
    try:
        plan = plain_plan(ast.parse(bare, mode="eval").body, parts, bare)
    except SyntaxError:
        return None
    return plan if plan is not None and leaves(plan) <= 12 else None


def plain_plan(node, parts, bare):
    if isinstance(node, ast.Name):
        return name(node.id[2:]) if node.id[0] == "n" else parts[int(node.id[1:])]
    if isinstance(node, ast.Call):
        if not isinstance(node.func, ast.Name) or node.func.id[2:] not in WORDS or len(node.args) != 1:
            return None
        # Python would take a word in brackets, too.
        if not bare[node.func.end_col_offset:].lstrip().startswith("("):
            return None
        one = plain_plan(node.args[0], parts, bare)
        return None if one is None else (node.func.id[2:], one)
    if not isinstance(node, ast.BinOp):
        return None
    one, other = plain_plan(node.left, parts, bare), plain_plan(node.right, parts, bare)
    return None if one is None or other is None else (NODES[type(node.op)], one, other)


def leaves(plan):
    if plan[0] in ("name", "web", "path"):
        return 1
    return sum(leaves(part) for part in plan[1:])


def outside(text):
    """The text with a letter in the place of each {..} and [..]."""
    return re.sub(r"\{[^}]*\}|\[[^\]]*\]", "e", text)


def plain_goes_on(text):
    closing = ")" * max(outside(text).count("(") - outside(text).count(")"), 0)
    return plain_good(text + closing) is not None or plain_good(text + "a" + closing) is not None


def plain_at(text):
    if plain_good(text) is not None:
        return None
    at = 0
    while at < len(text):
        if text[at] in "{[":
            if not plain_goes_on(text[:at] + "[]"):
                return at
            if text.find({"{": "}", "[": "]"}[text[at]], at) < 0:
                return len(text)
            if enclosed(text, at) is None:
                return at
            at = enclosed(text, at)[1]
        else:
            at += 1
            if not plain_goes_on(text[:at]):
                return at - 1
    return len(text)


LEAVES = [name("a"), name("b"), name("ward"), name("least"), ("web", "2 0a1 p0"), ("web", "0"), ("path", ""),
          ("path", "a> p b<")]


def some_plan(dice, most):
    parts = [dice.choice(LEAVES) for _ in range(dice.randint(1, most))]
    words = 4
    while len(parts) > 1 or dice.random() < 0.3:
        at = dice.randrange(len(parts))
        if dice.random() < 0.3 and words:
            parts[at] = (dice.choice(WORDS), parts[at])
            words -= 1
        elif at + 1 < len(parts):
            parts[at:at + 2] = [(dice.choice("+*^"), parts[at], parts[at + 1])]
    return parts[0]


def wide_text(dice, plan):
    """A text of the plan with other blanks and more brackets."""
    def blanks():
        return " " * dice.choice((0, 0, 1, 2))
    if plan[0] in ("name", "web", "path"):
        text = {"name": "{0}", "web": "{{{0}}}", "path": "[{0}]"}[plan[0]].format(plan[1])
    elif plan[0] in WORDS:
        text = f"{plan[0]}{blanks()}({wide_text(dice, plan[1])})"
    else:
        text = f"({wide_text(dice, plan[1])}){plan[0]}({wide_text(dice, plan[2])})"
    if dice.random() < 0.1:
        text = f"({text})"
    return blanks() + text + blanks()


def deepest(text):
    text = outside(text)
    return max(text[:end].count("(") - text[:end].count(")") for end in range(len(text) + 1))


class Interface(unittest.TestCase):
    def test_names_of_what_is_handed_in(self):
        told = {"read_plan": "(text)", "plan_text": "(plan)", "made": "(plan, webs)"}
        for word, signature in told.items():
            self.assertEqual(str(inspect.signature(getattr(plans, word))), signature)
            self.assertEqual(getattr(plans, word).__module__, "wardweb.plans")

    def test_handed_in_by_name(self):
        self.assertEqual(read_plan(text="x"), name("x"))
        self.assertEqual(plan_text(plan=name("x")), "x")
        self.assertEqual(made(webs={"x": Web(3)}, plan=name("x")), Web(3))

    def test_handed_things_stay(self):
        webs = {"a": path("a>"), "b": Web(2), "bad": Web(0)}
        before = [(word, str(web)) for word, web in webs.items()]
        made(read_plan("a + b * a ^ b + least(a) + ward(a)"), webs)
        refusal(NoWeb, made, read_plan("a + x"), webs)
        self.assertEqual([(word, str(web)) for word, web in webs.items()], before)


class Read(unittest.TestCase):
    def judge(self, text, plan):
        self.assertEqual(read_plan(text), plan, text)
        self.assertEqual(plain_good(text), plan, text)

    def test_parts(self):
        for word in ("a", "zz", "abcdef", "web", "name", "path"):
            self.judge(word, name(word))
        for text in ("0", "3 0a1 1a2 0b0 p2", "81", "1 0a0"):
            self.judge("{" + text + "}", ("web", text))
        for text in ("", "p", "a> b< q", " ".join(["a>"] * 80)):
            self.judge("[" + text + "]", ("path", text))
        for word in WORDS:
            self.judge(f"{word}(x)", (word, name("x")))
            self.judge(f"{word} ( x )", (word, name("x")))
            self.judge(f"{word}({word}({word}))", (word, (word, name(word))))

    def test_words_as_names(self):
        for word in WORDS:
            self.judge(word, name(word))
            self.judge(f"({word})", name(word))
            self.judge(f" {word} ", name(word))
            self.judge(f"{word} + {word}", ("+", name(word), name(word)))
            self.judge(f"{word}*({word})", ("*", name(word), name(word)))
            self.judge(f"{word}({word} ^ {word})", (word, ("^", name(word), name(word))))

    def test_how_close_signs_bind(self):
        a, b, c = name("a"), name("b"), name("c")
        told = {"a + b": ("+", a, b), "a * b": ("*", a, b), "a ^ b": ("^", a, b),
                "a + b + c": ("+", ("+", a, b), c), "a * b * c": ("*", ("*", a, b), c),
                "a ^ b ^ c": ("^", ("^", a, b), c), "a + b * c": ("+", a, ("*", b, c)),
                "a * b + c": ("+", ("*", a, b), c), "a * b ^ c": ("*", a, ("^", b, c)),
                "a ^ b * c": ("*", ("^", a, b), c), "a + b ^ c": ("+", a, ("^", b, c)),
                "(a + b) * c": ("*", ("+", a, b), c), "a ^ (b + c)": ("^", a, ("+", b, c)),
                "a ^ (b * c)": ("^", a, ("*", b, c)), "(a * b) ^ c": ("^", ("*", a, b), c),
                "a + (b + c)": ("+", a, ("+", b, c)), "a ^ (b ^ c)": ("^", a, ("^", b, c)),
                "a * (b * c)": ("*", a, ("*", b, c)), "ward(a + b) ^ c": ("^", ("ward", ("+", a, b)), c),
                "a * least(b * c)": ("*", a, ("least", ("*", b, c))),
                "{1} + [a>] * b": ("+", ("web", "1"), ("*", ("path", "a>"), b))}
        for text, plan in told.items():
            self.judge(text, plan)
            self.assertEqual(plan_text(plan), text)

    def test_blanks(self):
        plan = read_plan("ward(a + {2 0a1}) * [a> p] ^ b")
        for text in ("ward(a+{2 0a1})*[a> p]^b", "  ward ( a  +{2 0a1} )  * [a> p]^  b  ",
                     "ward((a)+({2 0a1}))*([a> p])^b", "((ward(a + {2 0a1})) * ([a> p] ^ (b)))"):
            self.judge(text, plan)
            self.assertEqual(plan_text(read_plan(text)), "ward(a + {2 0a1}) * [a> p] ^ b")

    def test_there_and_back(self):
        dice = random.Random(601)
        for _ in range(400):
            plan = some_plan(dice, 7)
            text = plan_text(plan)
            if deepest(text) <= 8:
                self.judge(text, plan)
            wide = wide_text(dice, plan)
            if deepest(wide) <= 8:
                self.judge(wide, plan)

    def test_written_plainly(self):
        dice = random.Random(602)
        for _ in range(150):
            plan = some_plan(dice, 6)
            text = plan_text(plan)
            self.assertEqual(outside(text).count(" "), 2 * sum(outside(text).count(sign) for sign in "+*^"))
            self.assertNotRegex(outside(text), r"  |^ | $|\( | \)|[a-z)][+*^]|[+*^][a-z(]")
            for at in [at for at, sign in enumerate(text) if sign == "("]:
                if not text[:at].endswith(WORDS):
                    end = min(stop for stop in range(at, len(text))
                              if text[at:stop + 1].count("(") == text[at:stop + 1].count(")"))
                    self.assertNotEqual(plain_good(text[:at] + text[at + 1:end] + text[end + 1:]), plan, text)


class Refused(unittest.TestCase):
    def judge(self, text, at):
        self.assertEqual(refusal(BadText, read_plan, text).at, at, text)
        if len(text) < 300:
            self.assertEqual(plain_at(text), at, text)

    def test_ends_too_soon(self):
        for text in ("", "  ", "a +", "a + ", "(", "(a", "ward(", "ward(a", "ward (  ", "least(a + b", "a ^ (", "((a)",
                     "{", "{1", "[", "[a>", "a + {2 0a1", "a + [p", "{1]", "[p}", "{x", "{1 [a>]", "[ {1}"):
            self.judge(text, len(text))

    def test_signs_that_no_plan_has(self):
        for sign in "A1_-!&|},.;:?]'\"#$~<>=/\\@`\n":
            self.judge(sign, 0)
            self.judge(f"a {sign}", 2)
            self.judge(f"a + {sign}b", 4)
            self.judge(f"(a{sign})", 2)
            self.judge("{1}" + sign, 3)

    def test_names_too_long(self):
        self.judge("abcdefg", 6)
        self.judge("a + abcdefgh", 10)
        self.judge("belowward(a)", 6)
        self.judge("wardab(a)", 6)

    def test_parts_side_by_side(self):
        for text, at in (("a b", 2), ("a(b)", 1), ("(a)b", 3), ("(a)(b)", 3), ("a{1}", 1), ("a [p]", 2),
                         ("{1}{1}", 3), ("[] []", 3), ("{1}a", 3), ("ward(a)(b)", 7), ("ward(a)b", 7), ("ward a", 5),
                         ("ward {1}", 5), ("ward[p]", 4), ("x (a)", 2), ("(ward)(a)", 6), ("a {", 2), ("a [x]", 2),
                         ("ward ward(a)", 5)):
            self.judge(text, at)

    def test_signs_side_by_side(self):
        for text, at in (("a ++ b", 3), ("+ a", 0), (" ^a", 1), ("(+a)", 1), ("a * ^ b", 4), ("ward(+)", 5),
                         ("a + )", 4), ("()", 1), ("ward()", 5), (")", 0), ("a)", 1), ("(a))", 3), ("ward(a))", 7)):
            self.judge(text, at)

    def test_bad_texts_within(self):
        for within in ("", " ", "a", "82", "1 ", " 1", "2 0a1 0a1", "2 0a2", "01", "1 p1", "{1", "2  0a1", "(", "2+2"):
            self.judge("{" + within + "}", 0)
            self.judge("a + {" + within + "} + b", 4)
            self.judge("ward({" + within + "})", 5)
        for within in (" ", "a", "a>  p", "a> ", " a>", "a>b<", "p q s", " ".join(["a>"] * 81), "[", "1", "(p)"):
            self.judge("[" + within + "]", 0)
            self.judge("a + [" + within + "] + b", 4)
        self.judge("{1}}", 3)
        self.judge("[]]", 2)
        self.judge("{{1}}", 0)
        self.judge("[[]]", 0)
        self.judge("{1} + {2 0a5", 12)

    def test_brackets_within_one_another(self):
        self.assertEqual(read_plan("(" * 8 + "a" + ")" * 8), name("a"))
        self.judge("(" * 9 + "a" + ")" * 9, 8)
        self.judge("ward(" * 9 + "a" + ")" * 9, 44)
        self.judge("ward (" * 9, 53)
        self.judge("(" * 8 + "ward(a" + ")" * 9, 12)
        self.judge("(" * 4 + "turn(" * 5, 28)
        self.assertEqual(read_plan("(" * 8 + "ward" + ")" * 8), name("ward"))
        self.assertEqual(plan_text(read_plan("turn(" * 8 + "a" + ")" * 8)), "turn(" * 8 + "a" + ")" * 8)
        # Others don't count, and side by side there may be more.
        self.assertEqual(read_plan("(" * 8 + "{1}" + ")" * 8), ("web", "1"))
        self.assertEqual(len(read_plan(" + ".join(["((a))"] * 12))), 3)

    def test_parts_in_all(self):
        for part in ("a", "{1}", "[]", "ward", "ward(a)", "(a)"):
            text = " + ".join([part] * 12)
            self.assertEqual(read_plan(text), plain_good(text))
            self.assertEqual(read_plan(text + "  "), plain_good(text))
            for more in ("+", "*", "^ a", "+ {1}", "+ ward(a)"):
                self.judge(f"{text} {more}", len(text) + 1)
                self.judge(f"{text}{more}", len(text))
            self.judge(f"({text}) + a", len(text) + 3)
            self.judge(f"{text} b", len(text) + 1)
            self.judge(f"{text} [", len(text) + 1)
        text = " * ".join(["a", "{1}", "[]"] * 4)
        self.assertEqual(read_plan(text), plain_good(text))
        self.judge(f"{text} * [", len(text) + 1)
        text = " + ".join(["a"] * 11 + ["ward"])
        self.assertEqual(read_plan(text + "(a)")[2], ("ward", name("a")))
        self.judge(text + "(a) + a", len(text) + 4)

    def test_many_texts_by_the_words(self):
        dice = random.Random(603)
        bits = ["a", "bc", "+", "*", "^", "(", ")", " ", "ward", "least(", "{1}", "[p]", "{", "}", "[", "]", "1", "p",
                "abcdef", "?", " + ", "turn (", "{2 0a1}", "[a> b<]"]
        good = 0
        for _ in range(4000):
            text = "".join(dice.choice(bits) for _ in range(dice.randint(0, 9)))
            at = plain_at(text)
            if at is None:
                good += 1
                self.assertEqual(read_plan(text), plain_good(text), text)
            else:
                self.judge(text, at)
        self.assertGreater(good, 100)

    def test_bent_texts_by_the_words(self):
        dice = random.Random(604)
        for _ in range(150):
            text = wide_text(dice, some_plan(dice, 5))
            at = dice.randrange(len(text))
            for bent in (text[:at] + text[at + 1:], text[:at] + dice.choice("a+*^() {}[]1p") + text[at:], text[:at],
                         text[:at] + dice.choice("a+*^(){}[]") + text[at + 1:]):
                due = plain_at(bent)
                if due is None:
                    self.assertEqual(read_plan(bent), plain_good(bent), bent)
                else:
                    self.judge(bent, due)

    def test_long_texts(self):
        self.judge("(" * 4000, 8)
        self.judge("a" * 4000, 6)
        self.judge("{" * 4000, 4000)
        self.judge("a+" * 2000, 23)
        self.assertEqual(read_plan(" " * 3990 + "a"), name("a"))


class Made(unittest.TestCase):
    WEBS = {"a": path("a>"), "b": read_web("2 0a1 1a1 p0"), "c": bare_ring(3), "ward": Web(2), "e": Web(0)}

    def judge(self, text, web):
        self.assertEqual(made(read_plan(text), self.WEBS), web, text)

    def test_parts(self):
        a, b, c = self.WEBS["a"], self.WEBS["b"], self.WEBS["c"]
        self.judge("a", a)
        self.judge("ward", Web(2))
        self.judge("{3 0a1 p2}", read_web("3 0a1 p2"))
        self.judge("[a> p b<]", path("a> p b<"))
        self.judge("[]", Web(1))
        self.judge("a + b", beside(a, b))
        self.judge("b * c", times(b, c))
        self.judge("b ^ a", power(b, a))
        self.judge("a ^ b", power(a, b))
        self.judge("c ^ e", Web(1, arrows=[("a", 0, 0), ("b", 0, 0), ("c", 0, 0)],
                                marks=[("p", 0), ("q", 0), ("r", 0)]))
        self.judge("ward(a)", ward(a))
        self.judge("ward([a> b> p])", ward(path("a> b> p")))
        self.judge("below([a> a>])", below(path("a> a>")))
        self.judge("lots(c)", lots(c))
        self.judge("turn(b)", turned(b))
        self.judge("least(b + c)", kept(beside(b, c), least_part(beside(b, c))[0]))
        self.judge("least({3 0a1})", path("a>"))

    def test_within_one_another(self):
        a, b, c = self.WEBS["a"], self.WEBS["b"], self.WEBS["c"]
        self.judge("a + b * c", beside(a, times(b, c)))
        self.judge("(a + b) * c", times(beside(a, b), c))
        self.judge("a + b + c", beside(beside(a, b), c))
        self.judge("b ^ a ^ a", power(power(b, a), a))
        self.judge("b ^ (a + [])", power(b, beside(a, Web(1))))
        self.judge("turn(b) ^ turn(a) * turn(c)", times(power(turned(b), turned(a)), turned(c)))
        self.judge("lots(least(c + c)) + ward(turn(a))", beside(lots(c), ward(turned(a))))

    def test_by_the_functions(self):
        makers = {"+": beside, "*": times, "^": power, "ward": ward, "below": below, "lots": lots, "turn": turned,
                  "least": lambda web: kept(web, least_part(web)[0])}

        def plain(plan, webs):
            if plan[0] == "name":
                if plan[1] not in webs:
                    raise NoWeb(plan[1])
                return webs[plan[1]]
            if plan[0] == "web":
                return read_web(plan[1])
            if plan[0] == "path":
                return path(plan[1])
            return makers[plan[0]](*[plain(part, webs) for part in plan[1:]])

        dice = random.Random(611)
        ended = {}
        for _ in range(500):
            plan = some_plan(dice, 5)
            try:
                due = plain(plan, self.WEBS)
            except (NoWeb, NotTree, TooMany) as refused:
                told = refusal(type(refused), made, plan, self.WEBS)
                self.assertEqual(vars(told), vars(refused))
                ended[refused.word] = ended.get(refused.word, 0) + 1
            else:
                self.assertEqual(made(plan, self.WEBS), due)
                ended["made"] = ended.get("made", 0) + 1
        self.assertEqual(set(ended), {"NoWeb", "NotTree", "TooMany", "made"})

    def refused(self, kind, text, **told):
        found = refusal(kind, made, read_plan(text), {**self.WEBS, "star": bare_star(65), "big": full_web(40)})
        for key, value in told.items():
            self.assertEqual(getattr(found, key), value, text)

    def test_the_refusal_that_comes_first(self):
        self.refused(NoWeb, "x + y", name="x")
        self.refused(NoWeb, "a + y * x", name="y")
        self.refused(NoWeb, "(a + y) * x", name="y")
        self.refused(NoWeb, "big + big + x + big", name="x")
        self.refused(TooMany, "big + big + big + x", bound=81)
        self.refused(NoWeb, "ward(c + x)", name="x")
        self.refused(NotTree, "ward(c) + x")
        self.refused(NotTree, "below(c) + lots(big)")
        self.refused(TooMany, "lots(big) + below(c)", bound=81)
        self.refused(TooMany, "lots({7})", bound=81)
        self.refused(TooMany, "ward(star) + x", bound=64)
        self.refused(TooMany, "below(star) + x", bound=64)
        self.refused(TooMany, "below([a> a> a> a> a>])", bound=81)
        self.refused(TooMany, "least({7})", bound=300000)
        self.refused(TooMany, "least(a + a + a + []) + x", bound=300000)
        self.refused(TooMany, "{10} * {9}", bound=81)
        self.refused(TooMany, "{3} ^ {5}", bound=81)
        self.refused(NotTree, "ward(e)")
        # Names are looked for where they stand, not ahead of all.
        self.refused(TooMany, "{9} ^ {3} + x", bound=81)
        self.refused(NoWeb, "x ^ ({9} ^ {3})", name="x")
        self.refused(NoWeb, "below", name="below")
        self.judge("{9} * {9} ", Web(81))

    def test_least_of_six(self):
        self.judge("least({6})", Web(1))


if __name__ == "__main__":
    unittest.main()

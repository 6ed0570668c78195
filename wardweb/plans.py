"""Plans: texts that make webs of webs, read, written and carried out."""

from wardweb.errors import BadText, NoWeb
from wardweb.least import least_part
from wardweb.made import beside, kept, lots, path, power, times, turned
from wardweb.reading import LETTERS, Reading, joined_text, name_at, read_whole
from wardweb.wards import below, ward
from wardweb.webs import read_web

MOST_PARTS = 12
MOST_OPEN = 8
RANKS = {"+": 1, "*": 2, "^": 3}
CLOSING = {"{": "}", "[": "]"}


def read_plan(text):
    """The plan of a text."""
    joining = {sign: (RANKS[sign], sign) for sign in RANKS}
    reading = Reading(joining, most_parts=MOST_PARTS, most_open=MOST_OPEN)
    return read_whole(reading, text, read_further)


def read_further(reading, text, at):
    """Read the name, the word, the web, the path or the sign that stands there; the place behind it."""
    if text[at] in LETTERS:
        return read_name(reading, text, at)
    if text[at] in CLOSING:
        return read_enclosed(reading, text, at)
    reading.take_sign(at, text[at])
    return at + 1


def read_name(reading, text, at):
    """Read a name, or one of the words with the bracket that follows it."""
    reading.refuse_behind_part(at)
    name = name_at(text, at)
    end = at + len(name)
    behind = text[end:].lstrip(" ")
    if name in one_web_makers() and behind[:1] == "(":
        bracket = len(text) - len(behind)
        reading.take_open(bracket, name)
        return bracket + 1
    reading.take_part(("name", name))
    return end


def read_enclosed(reading, text, at):
    """Read a web's or a path's text, up to the first sign that closes it."""
    reading.refuse_behind_part(at)
    end = text.find(CLOSING[text[at]], at)
    if end < 0:
        raise BadText(len(text))
    part = ("web" if text[at] == "{" else "path", text[at + 1:end])
    try:
        made(part, {})
    except BadText:
        raise BadText(at) from None
    reading.take_part(part)
    return end + 1


def plan_text(plan):
    """The text of a plan, with brackets just where it would be read as another one without these."""
    return text_within(plan, 0)


def text_within(plan, rank):
    """The plan's text, in brackets where it binds less close than the rank."""
    word = plan[0]
    if word == "name":
        return plan[1]
    if word == "web":
        return "{" + plan[1] + "}"
    if word == "path":
        return "[" + plan[1] + "]"
    if word not in RANKS:
        return f"{word}({text_within(plan[1], 0)})"
    return joined_text(text_within, plan, word, RANKS[word], rank)


def made(plan, webs):
    """The web that the plan makes of the webs of that name."""
    word = plan[0]
    if word == "name":
        return named(plan[1], webs)
    if word == "web":
        return read_web(plan[1])
    if word == "path":
        return path(plan[1])
    one = made(plan[1], webs)
    if word in RANKS:
        joiner = two_web_makers()[word]
        return joiner(one, made(plan[2], webs))
    maker = one_web_makers()[word]
    return maker(one)


def named(name, webs):
    """The web of that name."""
    if name not in webs:
        raise NoWeb(name)
    return webs[name]


def one_web_makers():
    """By the words, what makes a web of one web."""
    return {"ward": ward, "below": below, "lots": lots, "turn": turned, "least": kept_least}


def two_web_makers():
    """By the signs, what makes a web of two webs."""
    return {"+": beside, "*": times, "^": power}


def kept_least(web):
    """The told least part of the web, kept."""
    points, images = least_part(web)
    return kept(web, points)

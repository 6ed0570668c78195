"""Pages: all that a hall keeps as one text, written and read."""

from wardweb.deeds import Stand
from wardweb.errors import BadText, Missing, WebError
from wardweb.hall import standing_hall, stood_behind
from wardweb.webs import read_web

KINDS = ("web", "tree", "rule")


def page(hall):
    """The page of the hall."""
    rows = [row_of(hall, "web", name) for name in hall.webs()]
    rows.extend([row_of(hall, "tree", name) for name in hall.trees()])
    rows.extend([row_of(hall, "rule", name) for name in hall.rules()])
    return "".join([row + "\n" for row in rows])


def row_of(hall, kind, name):
    """The row of the thing of that kind and name, without its line feed."""
    if kind == "web":
        return f"web {name} {hall.web(name)}"
    if kind == "tree":
        return f"tree {name} {hall.tree(name)}"
    web_name, text = hall.rule(name)
    return f"rule {name} {web_name} {text}"


def read_page(text):
    """The hall of a page."""
    *rows, rest = text.split("\n")
    stand = Stand({}, {}, {})
    ahead = (-1, "")
    for at, row in enumerate(rows):
        kind, name, told = row_words(row)
        if kind not in KINDS or (KINDS.index(kind), name) <= ahead:
            raise BadText(at)
        stand = behind_row(stand, at, kind, name, told)
        # What is read may be written otherwise, as sayings may.
        if row_of(standing_hall(stand), kind, name) != row:
            raise BadText(at)
        ahead = (KINDS.index(kind), name)
    if rest != "":
        raise BadText(len(rows))
    return standing_hall(stand)


def row_words(row):
    """The first two words of the row, and all that stands behind these."""
    kind, blank, rest = row.partition(" ")
    name, blank, told = rest.partition(" ")
    return (kind, name, told)


def behind_row(stand, at, kind, name, told):
    """What is kept behind the row of that number."""
    try:
        return stood_behind(stand, row_deed(kind, name, told))
    except (WebError, Missing):
        raise BadText(at) from None


def row_deed(kind, name, told):
    """The deed that brings what the row tells."""
    if kind != "rule":
        return (kind, name, read_web(told))
    web_name, blank, text = told.partition(" ")
    return (kind, name, web_name, text)

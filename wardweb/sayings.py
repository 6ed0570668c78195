"""Sayings made of trees: read, written, judged of webs, and brought to clauses."""

from wardweb.errors import BadSaying, BadText, NoTree
from wardweb.nearby import points_of
from wardweb.reading import CLOSEST, LETTERS, Reading, joined_text, name_at, read_whole
from wardweb.trees import refuse_no_tree, spots
from wardweb.wards import into_ward

MOST_NAMES = 16
MOST_NOTS = 12
MOST_OPEN = 12
JOINING = {"|": (1, "or"), "&": (2, "and")}
SIGNS = {"or": (1, "|"), "and": (2, "&")}


def read_saying(text):
    """The saying of a text."""
    reading = Reading(dict(JOINING), most_parts=MOST_NAMES, most_open=MOST_OPEN)
    return read_whole(reading, text, read_further)


def read_further(reading, text, at):
    """Read the name or the sign that stands there; the place behind it."""
    if text[at] in LETTERS:
        reading.refuse_behind_part(at)
        name = name_at(text, at)
        reading.take_part(("tree", name))
        return at + len(name)
    if text[at] == "!":
        if text[:at].count("!") == MOST_NOTS:
            raise BadText(at)
        reading.take_ahead(at, "not")
    else:
        reading.take_sign(at, text[at])
    return at + 1


def saying_text(saying):
    """The text of a saying, with brackets just where it would be read as another one without these."""
    return text_within(saying, 0)


def text_within(saying, rank):
    """The saying's text, in brackets where it binds less close than the rank."""
    word = saying[0]
    if word == "tree":
        return saying[1]
    if word == "not":
        return "!" + text_within(saying[1], CLOSEST)
    own, sign = SIGNS[word]
    return joined_text(text_within, saying, sign, own, rank)


def names_of(saying):
    """The names of the saying, each once, rising."""
    return sorted(set(names_within(saying)))


def names_within(saying):
    """The names of the saying as they stand."""
    if saying[0] == "tree":
        return [saying[1]]
    names = []
    for part in saying[1:]:
        names.extend(names_within(part))
    return names


def truth(saying, trees, web):
    """Whether the saying is true of the web."""
    refuse_wrong_trees(saying, trees)
    found = {name: len(spots(trees[name], web, 0)) > 0 for name in names_of(saying)}
    return judged(saying, found)


def judged(saying, found):
    """Whether the saying is true where it is known of each name."""
    word = saying[0]
    if word == "tree":
        return found[saying[1]]
    if word == "not":
        return not judged(saying[1], found)
    if word == "and":
        return judged(saying[1], found) and judged(saying[2], found)
    return judged(saying[1], found) or judged(saying[2], found)


def clauses(saying):
    """The lots of names of each of which some tree goes into just the webs of which the saying is true."""
    refuse_not(saying)
    names = names_of(saying)
    bits = {name: 1 << place for place, name in enumerate(names)}
    return sorted([[names[place] for place in points_of(lot)] for lot in clause_bits(saying, bits)])


def clause_bits(saying, bits):
    """The clauses, each as the sum of the bits of its names."""
    if saying[0] == "tree":
        return [bits[saying[1]]]
    ones = clause_bits(saying[1], bits)
    others = clause_bits(saying[2], bits)
    if saying[0] == "and":
        return innermost([*ones, *others])
    return innermost([one | other for one in ones for other in others])


def innermost(lots):
    """Those of the lots that have no other one within them, each once."""
    unlike = sorted(set(lots))
    return [lot for lot in unlike if all([lot & other != other for other in unlike if other != lot])]


def barred(saying, trees, web):
    """None where the saying is true of the web, else a clause that shuts it out and its maps into the wards."""
    refuse_not(saying)
    refuse_wrong_trees(saying, trees)
    maps = {name: into_ward(trees[name], web) for name in names_of(saying)}
    for clause in clauses(saying):
        if None not in [maps[name] for name in clause]:
            return (clause, [maps[name] for name in clause])
    return None


def refuse_not(saying):
    """Refuse a saying that has a not."""
    if saying[0] == "not":
        raise BadSaying()
    if saying[0] != "tree":
        for part in saying[1:]:
            refuse_not(part)


def refuse_wrong_trees(saying, trees):
    """Refuse the first name of the saying that no tree has, then webs so called that are no trees."""
    for name in names_of(saying):
        if name not in trees:
            raise NoTree(name)
    for name in names_of(saying):
        refuse_no_tree(trees[name])

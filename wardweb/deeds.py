"""Deeds: what a hall keeps, and how it stands behind each deed."""

from wardweb.errors import BadDeed, BadName, BadTie, InUse, NoThing, NoTie, NoTree, NoWeb, Same, Taken
from wardweb.made import beside, folded
from wardweb.plans import made, read_plan
from wardweb.reading import is_name
from wardweb.sayings import names_of, read_saying
from wardweb.wards import refuse_great_ward
from wardweb.webs import COLOURS, MARKS, Web


class Stand:
    """What a hall keeps at one time, by names; it never changes, so steps may share it.

    A rule is told as a pair of its web's name and its saying.
    """

    def __init__(self, web_rows, tree_rows, rule_rows):
        self.web_rows = web_rows
        self.tree_rows = tree_rows
        self.rule_rows = rule_rows

    def with_web(self, name, web):
        """The same with a web of that name."""
        return Stand({**self.web_rows, name: web}, self.tree_rows, self.rule_rows)

    def with_tree(self, name, tree):
        """The same with a tree of that name."""
        return Stand(self.web_rows, {**self.tree_rows, name: tree}, self.rule_rows)

    def with_rule(self, name, rule):
        """The same with a rule of that name."""
        return Stand(self.web_rows, self.tree_rows, {**self.rule_rows, name: rule})

    def without(self, name):
        """The same without what has that name."""
        return Stand(left_out(self.web_rows, name), left_out(self.tree_rows, name), left_out(self.rule_rows, name))

    def all_names(self):
        """All names, each once."""
        return [*self.web_rows, *self.tree_rows, *self.rule_rows]


def left_out(rows, name):
    """The rows without the one of that name."""
    return {key: rows[key] for key in rows if key != name}


def do_web(stand, name, web):
    """A new web, or one in the place of an elder one."""
    refuse_name(stand, name, stand.web_rows)
    return stand.with_web(name, web)


def do_tree(stand, name, tree):
    """A new tree, or one in the place of an elder one."""
    refuse_name(stand, name, stand.tree_rows)
    refuse_great_ward(tree)
    return stand.with_tree(name, tree)


def do_make(stand, name, plan):
    """A web that a plan makes of the webs and trees."""
    refuse_name(stand, name, stand.web_rows)
    return stand.with_web(name, made(read_plan(plan), {**stand.web_rows, **stand.tree_rows}))


def do_point(stand, name):
    """One point more."""
    return stand.with_web(name, beside(kept_web(stand, name), Web(1)))


def do_put(stand, name, tie):
    """An arrow or a mark comes."""
    web = kept_web(stand, name)
    refuse_tie(web, tie)
    ties = ties_of(web)
    if tie in ties:
        raise Same(tie)
    return stand.with_web(name, web_of_ties(web.points(), [*ties, tie]))


def do_cut(stand, name, tie):
    """An arrow or a mark goes."""
    web = kept_web(stand, name)
    refuse_tie(web, tie)
    ties = ties_of(web)
    if tie not in ties:
        raise NoTie(tie)
    return stand.with_web(name, web_of_ties(web.points(), [other for other in ties if other != tie]))


def do_fold(stand, name, one, other):
    """Two points are made one."""
    return stand.with_web(name, folded(kept_web(stand, name), one, other))


def do_rule(stand, name, web, saying):
    """A new rule, or one in the place of an elder one."""
    refuse_name(stand, name, stand.rule_rows)
    kept_web(stand, web)
    read = read_saying(saying)
    for needed in names_of(read):
        if needed not in stand.tree_rows:
            raise NoTree(needed)
    return stand.with_rule(name, (web, read))


def do_drop(stand, name):
    """A web, a tree or a rule goes."""
    if name not in stand.all_names():
        raise NoThing(name)
    for rule_name in sorted(stand.rule_rows):
        web, saying = stand.rule_rows[rule_name]
        # Names are all unlike, so a rule goes by no rule.
        if name in [web, *names_of(saying)]:
            raise InUse(rule_name)
    return stand.without(name)


DOERS = {"web": do_web, "tree": do_tree, "make": do_make, "point": do_point, "put": do_put, "cut": do_cut,
         "fold": do_fold, "rule": do_rule, "drop": do_drop}
LENGTHS = {"web": 3, "tree": 3, "make": 3, "point": 2, "put": 3, "cut": 3, "fold": 4, "rule": 4, "drop": 2}


def refuse_bad_deed(deed):
    """Refuse what is no deed."""
    if not isinstance(deed, tuple) or len(deed) == 0:
        raise BadDeed(None)
    # Whatever stands first: only texts are looked up.
    if not isinstance(deed[0], str) or LENGTHS.get(deed[0]) != len(deed):
        raise BadDeed(deed[0])


def behind_deed(stand, deed):
    """What is kept behind the deed."""
    doer = DOERS[deed[0]]
    things = deed[1:]
    return doer(stand, *things)


def refuse_name(stand, name, rows):
    """Refuse what is no name, and one that stands for anything else than these rows."""
    if not is_name(name):
        raise BadName(name)
    if name in stand.all_names() and name not in rows:
        raise Taken(name)


def kept_web(stand, name):
    """The web of that name."""
    if name not in stand.web_rows:
        raise NoWeb(name)
    return stand.web_rows[name]


def refuse_tie(web, tie):
    """Refuse what is no arrow and no mark of the web's points."""
    # Lists, as texts such as "" and "ab" stand in the text of all colours, too.
    letters = {3: list(COLOURS), 2: list(MARKS)}.get(len(tie), [])
    if tie[0] not in letters or not all([0 <= point < web.points() for point in tie[1:]]):
        raise BadTie(tie)


def ties_of(web):
    """All arrows and marks of the web."""
    return [*web.arrows(), *web.marks()]


def web_of_ties(points, ties):
    """The web of so many points with those arrows and marks."""
    return Web(points, arrows=[tie for tie in ties if len(tie) == 3], marks=[tie for tie in ties if len(tie) == 2])

"""Halls: webs, trees and standing rules, kept through many deeds."""

from wardweb.deeds import Stand, behind_deed, refuse_bad_deed
from wardweb.errors import Full, NoRule, NothingLeft, NoTree, NoWeb
from wardweb.sayings import names_of, saying_text, truth
from wardweb.wards import paper

MOST_THINGS = 12
MOST_RULES = 8


class Hall:
    """Webs, trees and rules by names, with the steps that can be taken back and done again."""

    def __init__(self):
        self.stand = Stand({}, {}, {})
        # The one taken or taken back last stands last.
        self.past = []
        self.future = []

    def do(self, deed):
        """One deed, as a step."""
        self.together([deed])

    def together(self, deeds):
        """Several deeds as one step, all or none."""
        for deed in deeds:
            refuse_bad_deed(deed)
        stand = self.stand
        for deed in deeds:
            stand = stood_behind(stand, deed)
        self.past.append(self.stand)
        self.future = []
        self.stand = stand

    def undo(self):
        """Take the last step back."""
        if len(self.past) == 0:
            raise NothingLeft()
        self.future.append(self.stand)
        self.stand = self.past.pop()

    def redo(self):
        """Do the step again that was taken back last."""
        if len(self.future) == 0:
            raise NothingLeft()
        self.past.append(self.stand)
        self.stand = self.future.pop()

    def depth(self):
        """How many steps can be taken back, and done again."""
        return (len(self.past), len(self.future))

    def webs(self):
        """The names of the webs, rising."""
        return sorted(self.stand.web_rows)

    def trees(self):
        """The names of the trees, rising."""
        return sorted(self.stand.tree_rows)

    def rules(self):
        """The names of the rules, rising."""
        return sorted(self.stand.rule_rows)

    def web(self, name):
        """The web of that name."""
        if name not in self.stand.web_rows:
            raise NoWeb(name)
        return self.stand.web_rows[name]

    def tree(self, name):
        """The tree of that name."""
        if name not in self.stand.tree_rows:
            raise NoTree(name)
        return self.stand.tree_rows[name]

    def rule(self, name):
        """The name of the rule's web, and its saying's text."""
        web_name, saying = kept_rule(self.stand, name)
        return (web_name, saying_text(saying))

    def holds(self, name):
        """Whether the rule's saying is true of its web."""
        web_name, saying = kept_rule(self.stand, name)
        return truth(saying, self.stand.tree_rows, self.stand.web_rows[web_name])

    def papers(self, name):
        """For each tree of the rule's saying a pair of its name and its paper with the rule's web."""
        web_name, saying = kept_rule(self.stand, name)
        web = self.stand.web_rows[web_name]
        return [(tree_name, paper(self.stand.tree_rows[tree_name], web)) for tree_name in names_of(saying)]

    def holding(self):
        """The names of the rules that hold, rising."""
        return [name for name in self.rules() if self.holds(name)]

    def broken(self):
        """The names of the rules that don't hold, rising."""
        return [name for name in self.rules() if not self.holds(name)]

    def twin(self):
        """A hall with all that this one has, its steps too."""
        other = standing_hall(self.stand)
        other.past = list(self.past)
        other.future = list(self.future)
        return other

    def __eq__(self, other):
        return (isinstance(other, Hall) and self.stand.web_rows == other.stand.web_rows
                and self.stand.tree_rows == other.stand.tree_rows and self.stand.rule_rows == other.stand.rule_rows)

    def __len__(self):
        return len(self.stand.all_names())

    def __repr__(self):
        return f"Hall({len(self.webs())} webs, {len(self.trees())} trees, {len(self.rules())} rules)"


def standing_hall(stand):
    """A hall that stands so, with nothing to take back or do again."""
    hall = Hall()
    hall.stand = stand
    return hall


def stood_behind(stand, deed):
    """What is kept behind the deed, unless that is more than a hall keeps."""
    behind = behind_deed(stand, deed)
    # Refused last of all, so it is enough to look behind the deed; one in the place of an elder one is none more.
    if len(behind.web_rows) + len(behind.tree_rows) > MOST_THINGS:
        raise Full(MOST_THINGS)
    if len(behind.rule_rows) > MOST_RULES:
        raise Full(MOST_RULES)
    return behind


def kept_rule(stand, name):
    """The rule of that name: its web's name and its saying."""
    if name not in stand.rule_rows:
        raise NoRule(name)
    return stand.rule_rows[name]

"""The refusals: each bears its values under their names, and its class's name as its word."""

from wardweb.copies import copied


class WebError(ValueError):
    """What is handed in is not as it must be."""

    def __init__(self):
        self.word = "WebError"


class BadSize(WebError):
    """A web doesn't have so many points."""

    def __init__(self, number):
        self.number = number
        self.word = "BadSize"


class BadArrow(WebError):
    """The arrow at that place has another colour, or points that aren't there."""

    def __init__(self, at):
        self.at = at
        self.word = "BadArrow"


class BadMark(WebError):
    """The mark at that place is another one, or on a point that isn't there."""

    def __init__(self, at):
        self.at = at
        self.word = "BadMark"


class BadPoint(WebError):
    """There is no such point or place."""

    def __init__(self, number):
        self.number = number
        self.word = "BadPoint"


class BadTie(WebError):
    """It is no arrow and no mark of the web's points."""

    def __init__(self, tie):
        self.tie = tie
        self.word = "BadTie"


class BadText(WebError):
    """The text is wrong there."""

    def __init__(self, at):
        self.at = at
        self.word = "BadText"


class BadName(WebError):
    """Names are 1 to 6 small letters."""

    def __init__(self, name):
        self.name = name
        self.word = "BadName"


class BadNumber(WebError):
    """The number is out of its bounds."""

    def __init__(self, number):
        self.number = number
        self.word = "BadNumber"


class BadSaying(WebError):
    """The saying has a not, where none may stand."""

    def __init__(self):
        self.word = "BadSaying"


class BadStrike(WebError):
    """The strike at that place isn't right."""

    def __init__(self, at):
        self.at = at
        self.word = "BadStrike"


class BadDeed(WebError):
    """It is no deed; its first thing is told."""

    def __init__(self, first):
        # A first thing may be a list, which its owner may change later.
        self.first = copied(first)
        self.word = "BadDeed"


class NotTree(WebError):
    """The web is no tree."""

    def __init__(self):
        self.word = "NotTree"


class NotTold(WebError):
    """The goal isn't told by trees."""

    def __init__(self):
        self.word = "NotTold"


class TooMany(WebError):
    """There are more than the bound."""

    def __init__(self, bound):
        self.bound = bound
        self.word = "TooMany"


class Taken(WebError):
    """The name stands for another kind of thing."""

    def __init__(self, name):
        self.name = name
        self.word = "Taken"


class Full(WebError):
    """There are as many as the bound allows."""

    def __init__(self, bound):
        self.bound = bound
        self.word = "Full"


class InUse(WebError):
    """The rule of that name goes by it."""

    def __init__(self, name):
        self.name = name
        self.word = "InUse"


class Same(WebError):
    """The arrow or mark is there."""

    def __init__(self, tie):
        self.tie = tie
        self.word = "Same"


class Missing(LookupError):
    """What is asked for isn't there."""

    def __init__(self):
        self.word = "Missing"


class NoWeb(Missing):
    """There is no web of that name."""

    def __init__(self, name):
        self.name = name
        self.word = "NoWeb"


class NoTree(Missing):
    """There is no tree of that name."""

    def __init__(self, name):
        self.name = name
        self.word = "NoTree"


class NoRule(Missing):
    """There is no rule of that name."""

    def __init__(self, name):
        self.name = name
        self.word = "NoRule"


class NoThing(Missing):
    """There is no web, tree or rule of that name."""

    def __init__(self, name):
        self.name = name
        self.word = "NoThing"


class NoTie(Missing):
    """The arrow or mark isn't there."""

    def __init__(self, tie):
        self.tie = tie
        self.word = "NoTie"


class NothingLeft(IndexError):
    """There is no step to take back, or to do again."""

    def __init__(self):
        self.word = "NothingLeft"

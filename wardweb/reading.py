"""Texts of names, signs and brackets, read from left to right, and written again.

Whatever is read here is refused by the first sign with which nothing right goes on.
"""

from wardweb.errors import BadText

LETTERS = "abcdefghijklmnopqrstuvwxyz"
LONGEST_NAME = 6
CLOSEST = 9
BRACKET = 0


class Reading:
    """What has been read so far: the parts that stand whole, and what waits for more.

    What waits is told as pairs (rank, word), by how close it binds: brackets least, what stands ahead of one part most.
    """

    def __init__(self, joining, *, most_parts, most_open):
        # By each sign that joins two parts: the pair that waits for the second one.
        self.joining = dict(joining)
        self.most_parts = most_parts
        self.most_open = most_open
        self.whole_parts = []
        self.waiting = []
        self.many_parts = 0
        self.many_open = 0
        # Whether a part has just ended, so that something joins or closes next.
        self.behind_part = False

    def take_part(self, part):
        """A name, or what stands in a name's place, where a part may begin."""
        self.whole_parts.append(part)
        self.many_parts += 1
        self.behind_part = True

    def take_ahead(self, at, word):
        """A word that goes with the one part behind it."""
        self.refuse_behind_part(at)
        self.waiting.append((CLOSEST, word))

    def take_open(self, at, word):
        """An opening bracket; the word, if it isn't None, goes with all that stands within."""
        self.refuse_behind_part(at)
        if self.many_open == self.most_open:
            raise BadText(at)
        self.waiting.append((BRACKET, word))
        self.many_open += 1

    def take_sign(self, at, sign):
        """A blank, a bracket, or a sign that joins."""
        if sign == "(":
            self.take_open(at, None)
        elif sign == ")":
            self.take_close(at)
        elif sign in self.joining:
            self.take_join(at, sign)
        elif sign != " ":
            raise BadText(at)

    def take_join(self, at, sign):
        """A sign that joins the part ahead of it with one behind it, which must still be allowed."""
        if not self.behind_part or self.many_parts == self.most_parts:
            raise BadText(at)
        rank, word = self.joining[sign]
        self.join_down_to(rank)
        self.waiting.append((rank, word))
        self.behind_part = False

    def take_close(self, at):
        """A closing bracket."""
        if not self.behind_part or self.many_open == 0:
            raise BadText(at)
        self.join_down_to(BRACKET + 1)
        rank, word = self.waiting.pop()
        self.many_open -= 1
        if word is not None:
            self.whole_parts.append((word, self.whole_parts.pop()))

    def take_end(self, at):
        """All that was read, as one."""
        if not self.behind_part or self.many_open > 0:
            raise BadText(at)
        self.join_down_to(BRACKET + 1)
        return self.whole_parts.pop()

    def refuse_behind_part(self, at):
        """Refuse what begins a part straight behind another one."""
        if self.behind_part:
            raise BadText(at)

    def join_down_to(self, lowest):
        """Join, from the right, all that waits and binds at least so close."""
        while len(self.waiting) > 0 and self.waiting[-1][0] >= lowest:
            rank, word = self.waiting.pop()
            last = self.whole_parts.pop()
            if rank == CLOSEST:
                self.whole_parts.append((word, last))
            else:
                self.whole_parts.append((word, self.whole_parts.pop(), last))


def name_at(text, at):
    """The name that begins there; too long a one is refused by the first letter too many."""
    end = at
    while end < len(text) and text[end] in LETTERS:
        if end - at == LONGEST_NAME:
            raise BadText(end)
        end += 1
    return text[at:end]


def is_name(text):
    """Whether the text is a name."""
    return 1 <= len(text) <= LONGEST_NAME and all([sign in LETTERS for sign in text])


def read_whole(reading, text, read_further):
    """All of the text as one, where read_further reads what stands at a place and tells the place behind it."""
    at = 0
    while at < len(text):
        at = read_further(reading, text, at)
    return reading.take_end(at)


def joined_text(text_within, joined, sign, own, rank):
    """The text of two parts that a sign joins, in brackets where the sign binds less close than the rank.

    text_within tells likewise the text of a part.
    """
    # Equal ones are read from the left, so behind the sign these need brackets, too.
    text = f"{text_within(joined[1], own)} {sign} {text_within(joined[2], own + 1)}"
    return f"({text})" if own < rank else text

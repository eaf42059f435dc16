"""A Pair: two webs of the same names that are changed turn by turn."""

from everalike.alike import are_alike
from everalike.errors import NoDeed, NoSide
from everalike.kinds import check_same
from everalike.nearest import made_alike, turned
from everalike.webs import check_name

# The sides by which each of the two webs is turned.
FIRST_SIDES = (0, 1)
SECOND_SIDES = (0, 2)


def check_side(thing):
    """Refuse what is no side of a pair."""
    if not isinstance(thing, int) or isinstance(thing, bool) or not 0 <= thing <= 2:
        raise NoSide("no side of a pair, which is 0, 1 or 2")


class Pair:
    """Two webs of the same names and a kind of lots, with the turns that led to them."""

    def __init__(self, one, other, kind):
        check_same(one, other, kind)
        self.kind = kind
        self.now = (one, other)
        # Both webs as they were ahead of each turn that stands.
        self.past = []

    def turn(self, side, one, other):
        """Take the strike where it is there, put it where it isn't: in the first web, the second, or (0) in both."""
        check_side(side)
        first, second = self.now
        check_name(first, one)
        check_name(first, other)
        strikes = ((one, other),)
        self.past.append(self.now)
        if side in FIRST_SIDES:
            first = turned(first, strikes)
        if side in SECOND_SIDES:
            second = turned(second, strikes)
        self.now = (first, second)

    def undo(self):
        """Undo the last turn that stands."""
        if len(self.past) == 0:
            raise NoDeed("no turn stands")
        self.now = self.past.pop()

    def webs(self):
        """The tuple of both webs."""
        return self.now

    def owing(self):
        """The fewest changes of the first web that make it alike with the second."""
        first, second = self.now
        return made_alike(first, second, self.kind)

    def alike(self):
        """Whether the webs are alike."""
        first, second = self.now
        return are_alike(first, second, self.kind)

    def story(self):
        """The list of whether the webs were alike at first and behind each turn that stands."""
        return [are_alike(first, second, self.kind) for first, second in [*self.past, self.now]]

    def twin(self):
        """Another Pair as this one is, with the same turns that can be undone."""
        first, second = self.now
        made = Pair(first, second, self.kind)
        made.past = list(self.past)
        return made

    def __len__(self):
        return len(self.past)

    def __eq__(self, other):
        return isinstance(other, Pair) and self.now == other.now and self.kind == other.kind

    def __repr__(self):
        return f"Pair({len(self.now[0][0])} names, {len(self.past)} turns)"

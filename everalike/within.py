"""Alike within: two webs have the same lots, whatever strikes of their own names are put to them."""

from everalike.kinds import check_same, lots_apart
from everalike.picking import picks
from everalike.webs import check_few, together

MOST_WITHIN = 3


def apart_within(one, other, kind, strikes):
    """The rising list of the lots of a kind of just one of two webs with strikes put to both."""
    web = (one[0], strikes)
    return lots_apart(together(one, web), together(other, web), kind)


def within(one, other, kind):
    """("alike",), or ("parted", strikes, lot): the fewest and least strikes that part two webs, and the least lot."""
    check_same(one, other, kind)
    check_few(one, MOST_WITHIN)
    names = one[0]
    spots = [(first, second) for first in names for second in names]
    for many in range(len(spots) + 1):
        for strikes in picks(spots, many):
            apart = apart_within(one, other, kind, strikes)
            if apart:
                return ("parted", strikes, apart[0])
    return ("alike",)

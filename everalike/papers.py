"""Papers: whether a thing of anything shows that two webs are alike in a way, or parts them."""

from everalike.errors import NoWay
from everalike.inward import MOST_INWARD, apart_inward, are_apart, inward
from everalike.kinds import check_same, is_lot_of, lots_apart
from everalike.outward import hit_apart, outward
from everalike.webs import are_strikes, check_few, is_lot
from everalike.within import MOST_WITHIN, apart_within, within

WAYS = ("inward", "outward", "within")


def check_way(thing):
    """Refuse what is no way of being alike."""
    # A thing of anything may be no key of a dict, so it is looked up among the words.
    if thing not in WAYS:
        raise NoWay("no way of being alike")


def check_size(web, way):
    """Refuse a web of more names than are taken for a way."""
    if way == "inward":
        check_few(web, MOST_INWARD)
    if way == "within":
        check_few(web, MOST_WITHIN)


def told_of(one, other, kind, way):
    """What is told of two webs, of a kind, for a way."""
    if way == "inward":
        return inward(one, other, kind)
    if way == "outward":
        return outward(one, other, kind)
    return within(one, other, kind)


def parts_inward(one, other, kind, shown):
    """Whether a tuple of anything is a test, and a lot of just one of two webs behind it."""
    if len(shown) != 3:
        return False
    hit, held, lot = shown
    if not is_lot(hit, one[0]) or not is_lot(held, one[0]) or not are_apart(hit, held):
        return False
    return lot in apart_inward(one, other, kind, hit, held)


def parts_outward(one, other, kind, shown):
    """Whether a tuple of anything is None and a lot of just one of two webs, or a name that one strikes in just one."""
    if len(shown) != 2:
        return False
    name, lot = shown
    if name is None:
        return lot in lots_apart(one, other, kind)
    if not is_lot_of(one, kind, lot) or not is_lot_of(other, kind, lot):
        return False
    return name in hit_apart(one, other, lot)


def parts_within(one, other, kind, shown):
    """Whether a tuple of anything is strikes of two webs' names, and a lot of just one with these put to both."""
    if len(shown) != 2:
        return False
    strikes, lot = shown
    return are_strikes(strikes, one[0]) and lot in apart_within(one, other, kind, strikes)


PARTS = {
    "inward": parts_inward,
    "outward": parts_outward,
    "within": parts_within,
}


def holds(one, other, kind, way, thing):
    """Whether a thing of anything shows that two webs are alike in a way for a kind, or parts them."""
    check_same(one, other, kind)
    check_way(way)
    check_size(one, way)
    if thing == ("alike",):
        return told_of(one, other, kind, way) == thing
    if not isinstance(thing, tuple) or thing[:1] != ("parted",):
        return False
    parts = PARTS[way]
    return parts(one, other, kind, thing[1:])

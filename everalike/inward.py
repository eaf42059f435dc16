"""Alike inward: two webs have the same lots, whatever only strikes inward is put to them."""

from everalike.errors import NoLot
from everalike.kinds import check_same, lots_apart
from everalike.picking import wider_lots
from everalike.webs import check_few, check_lot, check_pair, check_web, free_letters, together

MOST_INWARD = 5


def are_apart(hit, held):
    """Whether two lots have no name in common."""
    return not any([name in held for name in hit])


def check_test(one, hit, held):
    """Refuse what is no test of a web."""
    check_lot(one, hit)
    check_lot(one, held)
    if not are_apart(hit, held):
        raise NoLot("the two lots have a name in common")


def web_of_test(names, hit, held):
    """The web of a test of webs of the names."""
    fresh, loop = free_letters(names)[:2]
    known = [fresh, *hit]
    strikes = [(fresh, name) for name in hit]
    if held:
        known += [loop, *held]
        strikes += [(loop, name) for name in [loop, *held]]
    return (tuple(sorted(known)), tuple(sorted(strikes)))


def test_web(one, other, hit, held):
    """The web of a test: a fresh name strikes what is hit, another one strikes itself and what is held."""
    check_web(one)
    check_web(other)
    check_pair(one, other)
    check_test(one, hit, held)
    return web_of_test(one[0], hit, held)


def apart_inward(one, other, kind, hit, held):
    """The rising list of the lots of a kind of just one of two webs behind a test."""
    web = web_of_test(one[0], hit, held)
    return lots_apart(together(one, web), together(other, web), kind)


def tests_of(names):
    """The list of all tests of webs of the names, those of fewer names first."""
    parts = wider_lots(names, ())
    tests = [(hit, held) for hit in parts for held in parts if are_apart(hit, held)]
    return sorted(tests, key=lambda test: (len(test[0]) + len(test[1]), test))


def inward(one, other, kind):
    """("alike",), or ("parted", hit, held, lot): the first test that parts two webs, and the least lot of just one."""
    check_same(one, other, kind)
    check_few(one, MOST_INWARD)
    # What only strikes inward isn't struck by the webs: a name of theirs is hit by what is in its lot, or held by what
    # is neither in it nor struck, or neither. So each lot of such a web does to them what some test does.
    for hit, held in tests_of(one[0]):
        apart = apart_inward(one, other, kind, hit, held)
        if apart:
            return ("parted", hit, held, apart[0])
    return ("alike",)

"""Kinds of lots: which lots of a web's names stand, in five ways."""

from everalike.errors import NoKind
from everalike.webs import check_pair, check_web


def is_within(lot, others):
    """Whether each name of a lot is one of the others."""
    return all([name in others for name in lot])


def hit_by(web, lot):
    """The names that one of the lot strikes, as the keys of a dict."""
    return {other: True for one, other in web[1] if one in lot}


def defended(web, lot):
    """The lot of all names that a lot defends."""
    names, strikes = web
    hit = hit_by(web, lot)
    bare = {other: True for one, other in strikes if one not in hit}
    return tuple([name for name in names if name not in bare])


def foes(web, name):
    """The list of the names that strike a name, and of those that it strikes."""
    before = [one for one, other in web[1] if other == name]
    behind = [other for one, other in web[1] if one == name]
    return before + behind


def peaceful_lots(web):
    """The rising list of the lots of which none strikes one of it."""
    # Lots of every kind are among these, and they are far fewer than all lots where strikes are many.
    found = [()]
    for name in web[0]:
        against = foes(web, name)
        if name not in against:
            found = found + [(*lot, name) for lot in found if not any([one in against for one in lot])]
    return sorted(found)


def is_peaceful(web, lot):
    """Whether none of a lot strikes one of it."""
    return not any([one in lot and other in lot for one, other in web[1]])


def is_standing(web, lot):
    """Whether a peaceful lot defends each name of its own."""
    return is_within(lot, defended(web, lot))


def is_whole(web, lot):
    """Whether a peaceful lot has just the names that it defends."""
    return lot == defended(web, lot)


def is_stable(web, lot):
    """Whether each name that a peaceful lot lacks is struck by one of it."""
    hit = hit_by(web, lot)
    return all([name in lot or name in hit for name in web[0]])


def standing_lots(web):
    """The rising list of the lots that defend each name of their own."""
    return [lot for lot in peaceful_lots(web) if is_standing(web, lot)]


def whole_lots(web):
    """The rising list of the lots that have just the names that they defend."""
    return [lot for lot in peaceful_lots(web) if is_whole(web, lot)]


def grounded_lots(web):
    """The list of the one whole lot that is within each whole lot."""
    # A lot within another one defends no more than it, so what grows from nothing stays within each whole lot.
    lot = ()
    grown = defended(web, lot)
    while grown != lot:
        lot = grown
        grown = defended(web, lot)
    return [lot]


def preferred_lots(web):
    """The rising list of the standing lots that are within no other one."""
    found = []
    # Longest first: a lot that is within another one is then within one that was found ahead of it.
    for lot in sorted(standing_lots(web), key=len, reverse=True):
        if not any([is_within(lot, other) for other in found]):
            found.append(lot)
    return sorted(found)


def stable_lots(web):
    """The rising list of the lots that strike each name that they lack."""
    return [lot for lot in peaceful_lots(web) if is_stable(web, lot)]


KINDS = ("grounded", "preferred", "stable", "standing", "whole")

FINDERS = {
    "grounded": grounded_lots,
    "preferred": preferred_lots,
    "stable": stable_lots,
    "standing": standing_lots,
    "whole": whole_lots,
}

# Of the other two kinds a lot can't be judged without looking at the others.
JUDGES = {
    "stable": is_stable,
    "standing": is_standing,
    "whole": is_whole,
}


def check_kind(thing):
    """Refuse what is no kind of lots."""
    # A thing of anything may be no key of a dict, so it is looked up among the words.
    if thing not in KINDS:
        raise NoKind("no kind of lots")


def check_same(one, other, kind):
    """Refuse what is no web, two webs of unlike names, or no kind of lots."""
    check_web(one)
    check_web(other)
    check_pair(one, other)
    check_kind(kind)


def lots(web, kind):
    """The rising list of all lots of a kind of a web."""
    check_web(web)
    check_kind(kind)
    finder = FINDERS[kind]
    return finder(web)


def is_lot_of(web, kind, thing):
    """Whether a thing of anything is a lot of a kind of a web."""
    return thing in lots(web, kind)


def lots_apart(one, other, kind):
    """The rising list of the lots of a kind of just one of two webs."""
    return sorted(set(lots(one, kind)) ^ set(lots(other, kind)))

"""The fewest changes of a web that make a lot stand."""

from everalike.errors import NoCount, NoKind, NoShut
from everalike.kinds import JUDGES, is_peaceful
from everalike.nearest import turned
from everalike.picking import picks, wider_lots
from everalike.webs import check_few, check_lot, check_web

MOST_ENFORCED = 5
MOST_CHANGES = 4
ENFORCED_KINDS = ("stable", "standing", "whole")


def check_enforced(web, lot, kind):
    """Refuse what is no web, one of too many names, no lot of it, or no kind that is taken here."""
    check_web(web)
    check_few(web, MOST_ENFORCED)
    check_lot(web, lot)
    # A thing of anything may be no key of a dict, so it is looked up among the words.
    if kind not in ENFORCED_KINDS:
        raise NoKind("no kind of lots that is enforced")


def check_limits(strict, most):
    """Refuse what is no truth, or no whole number of changes within its bounds."""
    if strict is not True and strict is not False:
        raise NoShut("neither True nor False")
    if not isinstance(most, int) or isinstance(most, bool) or not 0 <= most <= MOST_CHANGES:
        raise NoCount("no whole number of changes from 0 to 4")


def is_reached(web, goals, kind):
    """Whether one of some lots is one of the kind."""
    judge = JUDGES[kind]
    for goal in goals:
        if is_peaceful(web, goal) and judge(web, goal):
            return True
    return False


def enforced(web, lot, kind, *, strict=True, most=3):
    """The fewest changes behind which a lot is one of a kind, or, not strict, within one; None for more than most."""
    check_enforced(web, lot, kind)
    check_limits(strict, most)
    names, strikes = web
    # Strikes within the lot are taken whatever else is changed, and none is put there, as no lot of a kind has one.
    # Rising tuples of one length compare the same with these in both as without, so the first found is the least.
    inner = [(one, other) for one, other in strikes if one in lot and other in lot]
    spots = [(one, other) for one in names for other in names if one not in lot or other not in lot]
    goals = [lot] if strict else wider_lots(names, lot)
    for many in range(most - len(inner) + 1):
        for pick in picks(spots, many):
            changes = sorted([*inner, *pick])
            if is_reached(turned(web, changes), goals, kind):
                return tuple(changes)
    return None

"""Alike outward: two webs have the same lots, whatever is only struck is put to them."""

from everalike.kinds import check_same, hit_by, lots, lots_apart


def hit_apart(one, other, lot):
    """The rising list of the names that a lot strikes in just one of two webs."""
    return sorted(set(hit_by(one, lot)) ^ set(hit_by(other, lot)))


def outward(one, other, kind):
    """("alike",), or ("parted", None, lot), or ("parted", name, lot).

    The lot is one of just one of two webs, or, where there is a name, it strikes the name in just one of both.
    """
    check_same(one, other, kind)
    apart = lots_apart(one, other, kind)
    if apart:
        return ("parted", None, apart[0])
    # What is only struck changes no lot of the webs' own names, and hangs on what such a lot has and strikes alone.
    found = [(name, lot) for lot in lots(one, kind) for name in hit_apart(one, other, lot)]
    if found:
        name, lot = min(found)
        return ("parted", name, lot)
    return ("alike",)

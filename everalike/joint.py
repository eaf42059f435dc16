"""Joint webs: names that strike together, the marks that are right for them, and plain webs for them."""

from everalike.errors import NoJoint
from everalike.webs import are_names, free_letters, is_lot, is_rising

# A fresh name for each name and for each strike then leaves a plain web its twelve names.
MOST_JOINT = 4
MARKS = ("in", "open", "out")


def is_joint_strike(thing, names):
    """Whether a thing of anything is a strike of one and more of the names together at one of them."""
    if not isinstance(thing, tuple) or len(thing) != 2:
        return False
    lot, name = thing
    return is_lot(lot, names) and len(lot) > 0 and name in names


def are_joint_strikes(thing, names):
    """Whether a thing of anything can be the strikes of a joint web of the names."""
    if not isinstance(thing, tuple) or len(thing) > MOST_JOINT:
        return False
    # Parts that are no strikes may not compare, so whether they rise is asked last.
    return all([is_joint_strike(part, names) for part in thing]) and is_rising(thing)


def is_joint(thing):
    """Whether a thing of anything is a joint web."""
    if not isinstance(thing, tuple) or len(thing) != 2:
        return False
    names, strikes = thing
    return are_names(names) and len(names) <= MOST_JOINT and are_joint_strikes(strikes, names)


def check_joint(thing):
    """Refuse what is no joint web."""
    if not is_joint(thing):
        raise NoJoint("no joint web, a tuple (names, strikes)")


def are_marks(thing, names):
    """Whether a thing of anything is marks of a joint web of the names."""
    if not isinstance(thing, tuple) or len(thing) != len(names):
        return False
    return all([part in MARKS for part in thing])


def right_mark(strikes, marked, name):
    """The one mark that is right for a name, by the marks of the names that strike it."""
    against = [lot for lot, other in strikes if other == name]
    if any([all([marked[one] == "in" for one in lot]) for lot in against]):
        return "out"
    if all([any([marked[one] == "out" for one in lot]) for lot in against]):
        return "in"
    return "open"


def are_right(joint, marks):
    """Whether marks of a joint web are right."""
    names, strikes = joint
    marked = dict(zip(names, marks))
    return all([marked[name] == right_mark(strikes, marked, name) for name in names])


def are_joint_right(joint, thing):
    """Whether a thing of anything is marks of a joint web that are right."""
    check_joint(joint)
    return are_marks(thing, joint[0]) and are_right(joint, thing)


def all_marks(many):
    """The rising list of all marks of so many names."""
    rows = [()]
    for place in range(many):
        rows = [(*row, mark) for row in rows for mark in MARKS]
    return rows


def joint_marks(joint):
    """The rising list of all right marks of a joint web."""
    check_joint(joint)
    return [marks for marks in all_marks(len(joint[0])) if are_right(joint, marks)]


def plain_of(joint):
    """A web whose whole lots tell just the right marks of a joint web, each once."""
    check_joint(joint)
    names, strikes = joint
    fresh = free_letters(names)
    # Each name has a fresh one against it, which is in where the name is out, and out where it is in. Each strike has
    # a fresh one that those against its lot strike: it is in where the whole lot is, and out where one of it is.
    against = dict(zip(names, fresh))
    shots = fresh[len(names):len(names) + len(strikes)]
    plain = [(name, against[name]) for name in names]
    for shot, (lot, name) in zip(shots, strikes):
        plain += [(against[one], shot) for one in lot]
        plain.append((shot, name))
    known = [*names, *fresh[:len(names)], *shots]
    return (tuple(sorted(known)), tuple(sorted(plain)))

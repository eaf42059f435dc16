"""Webs alike: they have the same lots of a kind, whatever web is put together with each."""

from everalike.errors import TooMany
from everalike.kernels import kernel
from everalike.kinds import KINDS, check_kind, is_lot_of, lots_apart
from everalike.webs import check_web, free_letters, is_web, names_of_both, together

# Two fresh names part webs, and twelve are the most that a web has.
MOST_TOGETHER = 10


def are_alike(one, other, kind):
    """Whether two webs are alike for a kind."""
    check_web(one)
    check_web(other)
    check_kind(kind)
    return kernel(one, kind) == kernel(other, kind)


def kinds_alike(one, other):
    """The rising tuple of the kinds for which two webs are alike."""
    check_web(one)
    check_web(other)
    return tuple([kind for kind in KINDS if are_alike(one, other, kind)])


def check_asked(one, other, kind):
    """Refuse what is no web, no kind, or two webs of too many names for parting them."""
    check_web(one)
    check_web(other)
    check_kind(kind)
    many = len(names_of_both(one, other))
    if many > MOST_TOGETHER:
        raise TooMany(many, MOST_TOGETHER)


def name_parting(one, other, name):
    """A web that parts two webs of which just one has the name."""
    # All but this name are struck by a fresh name that nothing strikes, so it is in a lot of each kind just where it
    # is there and doesn't strike itself. Where it strikes itself in the one, it is put to the other without a strike.
    names = names_of_both(one, other)
    fresh = free_letters(names)[0]
    hit = [each for each in names if each != name]
    held = [name] if (name, name) in one[1] + other[1] else []
    return (tuple(sorted([*hit, *held, fresh])), tuple([(fresh, each) for each in hit]))


def strike_parting(one, other, strike):
    """A web that parts two webs of the same names, of whose kernels just one has the strike."""
    # A fresh name that nothing strikes leaves the two names of the strike to themselves, and another fresh one, which
    # only the struck name strikes, tells whether that one is struck by a lot.
    fresh, watch = free_letters(one[0])[:2]
    strikes = [(fresh, name) for name in one[0] if name not in strike] + [(strike[1], watch)]
    return (tuple(sorted([*one[0], fresh, watch])), tuple(sorted(strikes)))


def parting_web(one, other, kind):
    """A web that parts two webs that aren't alike for a kind, each strike of it with a name that neither has."""
    names = sorted(set(one[0]) ^ set(other[0]))
    if names:
        return name_parting(one, other, names[0])
    strikes = sorted(set(kernel(one, kind)[1]) ^ set(kernel(other, kind)[1]))
    # Strikes of two unlike names part only webs in which the same names strike themselves.
    own = [strike for strike in strikes if strike[0] == strike[1]]
    return strike_parting(one, other, (own + strikes)[0])


def parting(one, other, kind):
    """("alike", kernel), or ("parted", web, lot): the lot is one of just one of both put together with the web."""
    check_asked(one, other, kind)
    if are_alike(one, other, kind):
        return ("alike", kernel(one, kind))
    web = parting_web(one, other, kind)
    apart = lots_apart(together(one, web), together(other, web), kind)
    return ("parted", web, apart[0])


def does_part(one, other, kind, web, lot):
    """Whether a thing of anything is a lot of just one of two webs put together with a web."""
    try:
        first = together(one, web)
        second = together(other, web)
    except TooMany:
        return False
    return is_lot_of(first, kind, lot) != is_lot_of(second, kind, lot)


def parting_holds(one, other, kind, thing):
    """Whether a thing of anything shows that two webs are alike for a kind, or parts them."""
    check_asked(one, other, kind)
    if not isinstance(thing, tuple):
        return False
    if len(thing) == 3 and thing[0] == "parted" and is_web(thing[1]):
        return does_part(one, other, kind, thing[1], thing[2])
    return thing == ("alike", kernel(one, kind)) and thing == ("alike", kernel(other, kind))

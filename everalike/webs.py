"""Webs: names that strike one another."""

from everalike.errors import NoLot, NoName, NoPair, NoWeb, TooMany

LONGEST_NAME = 6
MOST_NAMES = 12
LETTERS = "abcdefghijklmnopqrstuvwxyz"


def is_name(thing):
    """Whether a thing of anything is a name."""
    if not isinstance(thing, str) or not 1 <= len(thing) <= LONGEST_NAME:
        return False
    return all(["a" <= letter <= "z" for letter in thing])


def is_rising(things):
    """Whether each of some things that compare is greater than the one ahead."""
    return all([low < high for low, high in zip(things, things[1:])])


def are_names(thing):
    """Whether a thing of anything can be the names of a web."""
    if not isinstance(thing, tuple) or len(thing) > MOST_NAMES:
        return False
    # Parts that are no names may not compare, so whether they rise is asked last.
    return all([is_name(part) for part in thing]) and is_rising(thing)


def is_strike(thing, names):
    """Whether a thing of anything is a strike of two of the names."""
    if not isinstance(thing, tuple) or len(thing) != 2:
        return False
    return thing[0] in names and thing[1] in names


def are_strikes(thing, names):
    """Whether a thing of anything can be the strikes of a web of the names."""
    if not isinstance(thing, tuple):
        return False
    # Parts that are no strikes may not compare, so whether they rise is asked last.
    return all([is_strike(part, names) for part in thing]) and is_rising(thing)


def is_web(thing):
    """Whether a thing of anything is a web."""
    if not isinstance(thing, tuple) or len(thing) != 2:
        return False
    names, strikes = thing
    return are_names(names) and are_strikes(strikes, names)


def check_web(thing):
    """Refuse what is no web."""
    if not is_web(thing):
        raise NoWeb("no web, a tuple (names, strikes)")


def check_name(web, thing):
    """Refuse what is no name of a web."""
    if thing not in web[0]:
        raise NoName("no name of the web")


def is_lot(thing, names):
    """Whether a thing of anything is a rising tuple of some of the names."""
    if not isinstance(thing, tuple):
        return False
    # Parts that are no names may not compare, so whether they rise is asked last.
    return all([part in names for part in thing]) and is_rising(thing)


def check_lot(web, thing):
    """Refuse what is no lot of a web."""
    if not is_lot(thing, web[0]):
        raise NoLot("no lot of the web, a rising tuple of its names")


def check_few(web, most):
    """Refuse a web of more names than are taken."""
    if len(web[0]) > most:
        raise TooMany(len(web[0]), most)


def check_pair(one, other):
    """Refuse two webs of unlike names."""
    if one[0] != other[0]:
        raise NoPair("the webs have unlike names")


def strikers(web, name):
    """The rising list of the names that strike a name."""
    check_web(web)
    check_name(web, name)
    return [one for one, other in web[1] if other == name]


def struck(web, name):
    """The rising list of the names that a name strikes."""
    check_web(web)
    check_name(web, name)
    return [other for one, other in web[1] if one == name]


def names_of_both(one, other):
    """The rising list of the names of two webs."""
    return sorted(set(one[0]) | set(other[0]))


def free_letters(names):
    """The list of the letters that are none of the names, of which fresh names are made."""
    return [letter for letter in LETTERS if letter not in names]


def together(one, other):
    """The web with the names and the strikes of both."""
    check_web(one)
    check_web(other)
    names = names_of_both(one, other)
    if len(names) > MOST_NAMES:
        raise TooMany(len(names), MOST_NAMES)
    strikes = sorted(set(one[1]) | set(other[1]))
    return (tuple(names), tuple(strikes))

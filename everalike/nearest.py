"""Changes of a web, and the fewest that make it alike with another one."""

from everalike.errors import NoChanges
from everalike.kernels import fullest, kernel
from everalike.kinds import check_same
from everalike.webs import are_strikes, check_web


def check_changes(web, thing):
    """Refuse what is no changes of a web."""
    if not are_strikes(thing, web[0]):
        raise NoChanges("no changes of the web, a rising tuple of tuples of two of its names")


def turned(web, changes):
    """The web with each strike of the changes taken that is there, and put that isn't."""
    return (web[0], tuple(sorted(set(web[1]) ^ set(changes))))


def changed(web, changes):
    """The web behind changes."""
    check_web(web)
    check_changes(web, changes)
    return turned(web, changes)


def made_alike(one, other, kind):
    """The fewest changes of one web behind which it is alike with another one of the same names for a kind."""
    check_same(one, other, kind)
    # Alike with the other one are just the webs that have its kernel's strikes and none that its fullest web lacks.
    least = kernel(other, kind)[1]
    most = fullest(other, kind)[1]
    put = [strike for strike in least if strike not in one[1]]
    taken = [strike for strike in one[1] if strike not in most]
    return tuple(sorted(put + taken))

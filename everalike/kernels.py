"""Kernels: webs without the strikes that are idle for a kind of lots."""

from everalike.kinds import check_kind
from everalike.webs import check_web


def idle_for_stable(strikes, one, other):
    """Whether the strike of one at an unlike other is idle for stable lots."""
    return (one, one) in strikes


def idle_for_standing(strikes, one, other):
    """Whether the strike of one at an unlike other is idle for standing lots, and for preferred ones."""
    return (one, one) in strikes and ((other, one) in strikes or (other, other) in strikes)


def idle_for_whole(strikes, one, other):
    """Whether the strike of one at an unlike other is idle for whole lots."""
    return (one, one) in strikes and (other, other) in strikes


def idle_for_grounded(strikes, one, other):
    """Whether the strike of one at an unlike other is idle for the grounded lot."""
    return (other, other) in strikes and ((one, one) in strikes or (other, one) in strikes)


IDLE = {
    "grounded": idle_for_grounded,
    "preferred": idle_for_standing,
    "stable": idle_for_stable,
    "standing": idle_for_standing,
    "whole": idle_for_whole,
}


def kernel(web, kind):
    """The web without its strikes that are idle for a kind."""
    check_web(web)
    check_kind(kind)
    idle = IDLE[kind]
    names, strikes = web
    there = {strike: True for strike in strikes}
    kept = [(one, other) for one, other in strikes if one == other or not idle(there, one, other)]
    return (names, tuple(kept))


def fullest(web, kind):
    """The web of the same names and the same kernel that has each strike that any such web has."""
    names, strikes = kernel(web, kind)
    idle = IDLE[kind]
    there = {strike: True for strike in strikes}
    # What is idle beside the kernel's strikes alone stays so, and makes none of these idle, however much is put.
    full = [
        (one, other) for one in names for other in names
        if (one, other) in there or one != other and idle(there, one, other)
    ]
    return (names, tuple(full))


def how_many(web, kind):
    """How many webs of the same names have the same kernel."""
    kept = kernel(web, kind)[1]
    many = 1
    # Each strike that the kernel lacks and the fullest web has may be there or not, whatever the others do.
    for strike in fullest(web, kind)[1]:
        if strike not in kept:
            many += many
    return many

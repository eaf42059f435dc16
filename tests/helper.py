"""What several tests need: odd things, webs, and ways to ask."""

import copy
import functools
import itertools

LETTERS = "abcdefghijklmnopqrstuvwxyz"
KINDS = ("standing", "whole", "grounded", "preferred", "stable")


def deep(make, depth):
    """A thing that is as deep as told, made by wrapping again and again."""
    thing = "a"
    for step in range(depth):
        thing = make(thing)
    return thing


# Things of anything, none of which is a web, a name, a lot or a kind.
ODD = (
    0, 1, -1, 2, 10 ** 30 - 1, -(10 ** 30 - 1), True, False, None,
    "", " ", "A", "a b", "a1", "a:", "abcdefg", "a\t", "a\n", "\n", "~", "z" * 80, "standin", "Whole", "standing ",
    [], [[], []], ["a"], ["standing"], [("a",), ()], {}, {"a": "b"}, {"a": ()}, {(): ()}, {1: [2]},
    (1,), (None,), (True, False), (1, 2), ((), (), ()), ((),), (("",), ()), ("A",), (("a",),), ([], []),
    ("standing",) * 3, tuple(range(3000)), list(range(3000)), ["a"] * 2999,
    deep(lambda thing: [thing], 14), deep(lambda thing: (thing,), 14), deep(lambda thing: {"a": thing}, 14),
    deep(lambda thing: (thing, thing), 10), deep(lambda thing: [(thing,)], 7),
)

NO_WEBS = ODD + (
    (), "a", "standing", ("a",), ("a", "b"), (("a",), None), (None, ()), (("a",), (), ()),
    [("a",), ()], (["a"], ()), (("a",), []), (("a",), [("a", "a")]), (("a",), (["a", "a"],)),
    (("b", "a"), ()), (("a", "a"), ()), (("a",), (("a", "b"),)), (("a",), (("a",),)),
)

NO_KINDS = ODD + ((), "a", ("standing",), ["whole"], "stand", "STABLE", "complete", "standing whole", {"whole": "stable"})


def row(many):
    """The web in which each name but the last strikes the next one."""
    names = tuple(LETTERS[:many])
    return (names, tuple(zip(names, names[1:])))


# Things of anything, none of which is a lot of the names a and b.
NO_LOTS = ODD + (
    ["a"], "a", "ab", ("b", "a"), ("a", "a"), ("c",), ("a", "b", "c"), ("a", None), ("a", ["b"]), (("a", "b"),), {"a": 1},
    ("a", True), "standing", row(2),
)


def ring(many):
    """The web in which each name strikes the next one, and the last the first."""
    names = tuple(LETTERS[:many])
    return (names, tuple(sorted(zip(names, names[1:] + names[:1]))))


def rivals(many):
    """The web of pairs of names that strike one another, as many pairs as told."""
    names = tuple(LETTERS[:2 * many])
    return (names, tuple(sorted(zip(names, [LETTERS[at ^ 1] for at in range(2 * many)]))))


def every_strike(names):
    """All strikes of the names, rising."""
    return tuple(itertools.product(names, repeat=2))


def all_webs(names):
    """Every web of the names."""
    every = every_strike(names)
    return [(names, tuple(itertools.compress(every, bits))) for bits in itertools.product((0, 1), repeat=len(every))]


def picked_webs(names, many, seed=1):
    """Some webs of the names, the same ones each time: from few strikes to many."""
    every = every_strike(names)
    told = []
    for at in range(many):
        strikes = []
        for strike in every:
            seed = (seed * 1103515245 + 12345) & 0x7FFFFFFF
            if (seed >> 16) % 9 < 1 + at % 5:
                strikes.append(strike)
        told.append((names, tuple(strikes)))
    return told


def all_lots(names):
    """Every rising tuple of some of the names, rising."""
    return sorted(lot for size in range(len(names) + 1) for lot in itertools.combinations(names, size))


def peaceful(web, lot):
    return not any((one, other) in web[1] for one in lot for other in lot)


def defends(web, lot, name):
    return all(any((by, one) in web[1] for by in lot) for one, other in web[1] if other == name)


def by_the_words(web):
    """The lots of each kind, straight from the words of point [20]."""
    names = web[0]
    every = all_lots(names)
    standing = [lot for lot in every if peaceful(web, lot) and all(defends(web, lot, name) for name in lot)]
    whole = [lot for lot in standing if all(name in lot for name in names if defends(web, lot, name))]
    return {
        "standing": standing,
        "whole": whole,
        "grounded": [lot for lot in whole if all(set(lot) <= set(other) for other in whole)],
        "preferred": [lot for lot in standing if not any(set(lot) < set(other) for other in standing)],
        "stable": [
            lot for lot in every
            if peaceful(web, lot) and all(any((by, name) in web[1] for by in lot) for name in names if name not in lot)
        ],
    }


words_of = functools.lru_cache(maxsize=None)(by_the_words)


def lots_of_one(one, other, kind):
    """The rising list of the lots of a kind of just one of two webs, by the words of point [20]."""
    return sorted({*words_of(one)[kind]} ^ {*words_of(other)[kind]})


def put_together(one, other):
    """Two webs put together, straight from the words of point [11], however many names that makes."""
    return (tuple(sorted({*one[0], *other[0]})), tuple(sorted({*one[1], *other[1]})))


def lots_beside(one, other, kind, web):
    """The rising list of the lots of a kind of just one of two webs that a web is put together with."""
    return lots_of_one(put_together(one, web), put_together(other, web), kind)


def inward_web(names, hit, held):
    """The web of a test of webs of the names, straight from the words of point [60]."""
    x, y = [letter for letter in LETTERS if letter not in names][:2]
    web = put_together(((x,), ()), (hit, tuple((x, name) for name in hit)))
    if held == ():
        return web
    return put_together(web, put_together(((y,), ((y, y),)), (held, tuple((y, name) for name in held))))


def webs_inward(names, fresh):
    """Every web of the names and the fresh ones, each strike of which begins at a fresh one."""
    return webs_of(names, fresh, [strike for strike in every_strike(names + fresh) if strike[0] in fresh])


def webs_outward(names, fresh):
    """Every web of the names and the fresh ones, each strike of which ends at a fresh one."""
    return webs_of(names, fresh, [strike for strike in every_strike(names + fresh) if strike[1] in fresh])


def webs_of(names, fresh, every):
    """Every web of the names and the fresh ones with some of the strikes."""
    every = sorted(every)
    all_bits = itertools.product((0, 1), repeat=len(every))
    return [(tuple(sorted(names + fresh)), tuple(itertools.compress(every, bits))) for bits in all_bits]


def near_pairs(webs):
    """Each web with itself, and with each web that has one strike more or less."""
    told = []
    for names, strikes in webs:
        told.append(((names, strikes), (names, strikes)))
        for strike in every_strike(names):
            told.append(((names, strikes), (names, tuple(sorted({*strikes} ^ {strike})))))
    return told


def turned_by_hand(web, changes):
    """A web behind changes, straight from the words of point [50]."""
    kept = [strike for strike in web[1] if strike not in changes]
    return (web[0], tuple(sorted(kept + [strike for strike in changes if strike not in web[1]])))


def idle_by_the_words(web, kind, strike):
    """Whether a strike of a web is idle for a kind, straight from the words of point [30]."""
    a, b = strike
    if a == b:
        return False
    a_itself, b_itself, b_a = (a, a) in web[1], (b, b) in web[1], (b, a) in web[1]
    return {
        "stable": a_itself,
        "standing": a_itself and (b_a or b_itself),
        "preferred": a_itself and (b_a or b_itself),
        "whole": a_itself and b_itself,
        "grounded": b_itself and (a_itself or b_a),
    }[kind]


def kernel_by_the_words(web, kind):
    """The kernel of a web, straight from the words of point [30]."""
    return (web[0], tuple(strike for strike in web[1] if not idle_by_the_words(web, kind, strike)))


class Asking:
    """Ways to ask that each test case has beside its own."""

    def refused(self, error, ask, *parts, **named):
        """The error by which asking is refused, of just the class told; nothing handed in is changed."""
        before = copy.deepcopy((parts, named))
        with self.assertRaises(error) as caught:
            ask(*parts, **named)
        self.assertIs(type(caught.exception), error)
        self.assertEqual(repr((parts, named)), repr(before))
        return caught.exception

    def steady(self, ask, **named):
        """What is told, the same again and by names in another order; nothing handed in is changed."""
        before = repr(named)
        told = ask(*named.values())
        for other in (ask(*named.values()), ask(**named), ask(**dict(reversed(list(named.items()))))):
            self.assertEqual(repr(other), repr(told))
            if isinstance(told, list):
                self.assertIsNot(other, told)
        self.assertEqual(repr(named), before)
        return told

    def own(self, ask, *parts):
        """What is told: a list that the asker may change without changing what is told next."""
        told = ask(*parts)
        self.assertIs(type(told), list)
        kept = list(told)
        told.append("put in")
        told.reverse()
        self.assertEqual(ask(*parts), kept)
        told.clear()
        self.assertEqual(ask(*parts), kept)
        return kept

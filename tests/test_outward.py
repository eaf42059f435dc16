"""Point [70] and the promise in [5], and what [2], [3] and [4] say of them."""

import inspect
import itertools
import unittest

from everalike.errors import NoKind, NoPair, NoWeb
from everalike.outward import outward
from tests.helper import (
    KINDS, LETTERS, NO_KINDS, NO_WEBS, Asking, all_webs, every_strike, kernel_by_the_words, lots_beside, lots_of_one,
    near_pairs, picked_webs, ring, rivals, row, webs_outward, words_of,
)


def does_strike(web, lot, name):
    return any((one, name) in web[1] for one in lot)


def by_all_lots(one, other, kind):
    """What is to be told, by all lots and what they strike."""
    apart = lots_of_one(one, other, kind)
    if apart:
        return ("parted", None, apart[0])
    for name in one[0]:
        for lot in words_of(one)[kind]:
            if does_strike(one, lot, name) != does_strike(other, lot, name):
                return ("parted", name, lot)
    return ("alike",)


class Outward(Asking, unittest.TestCase):

    def looked_at(self, one, other):
        """What is told of two webs, by kind, each compared with all lots and what they strike."""
        every = []
        for kind in KINDS:
            told = outward(one, other, kind)
            self.assertIs(type(told), tuple)
            self.assertEqual(told, by_all_lots(one, other, kind), (one, other, kind))
            if len(told) == 3 and told[1] is not None:
                self.beside_a_fresh_name(one, other, kind, *told[1:])
            every.append(told)
        return every

    def beside_a_fresh_name(self, one, other, kind, name, lot):
        """The document's own sentence: a fresh name that the name strikes is in a lot with it in just one."""
        wider = tuple(sorted(lot + ("zzz",)))
        self.assertIn(wider, lots_beside(one, other, kind, (tuple(sorted((name, "zzz"))), ((name, "zzz"),))))

    def test_every_two_webs_of_up_to_two_names(self):
        for names in ((), ("a",), ("z",), ("a", "b"), ("b", "word")):
            for one, other in itertools.product(all_webs(names), repeat=2):
                self.looked_at(one, other)

    def test_larger_webs(self):
        every = []
        for names, many in ((("a", "b", "c"), 60), (tuple("abcd"), 20), (("a", "b", "bb", "word", "z"), 5)):
            for pair in near_pairs(picked_webs(names, many)):
                every += self.looked_at(*pair)
        webs = picked_webs(("a", "b", "c"), 60, seed=7)
        for one, other in zip(webs, webs[1:]):
            every += self.looked_at(one, other)
        # All three forms of the answer are among these.
        self.assertGreater(every.count(("alike",)), 100)
        self.assertGreater(len([told for told in every if told[1:2] == (None,)]), 100)
        self.assertGreater(len([told for told in every if told[1:2] not in ((), (None,))]), 100)

    def test_by_hand(self):
        names = ("a", "b")
        for kind in KINDS:
            self.assertEqual(outward(((), ()), ((), ()), kind), ("alike",))
            self.assertEqual(outward(row(3), row(3), kind), ("alike",))
            self.assertEqual(outward((names, (("a", "a"), ("b", "b"))), (names, every_strike(names)), kind), ("alike",))
        self.assertEqual(outward((names, ()), row(2), "standing"), ("parted", None, ("a", "b")))
        self.assertEqual(outward((names, ()), row(2), "whole"), ("parted", None, ("a",)))
        self.assertEqual(outward(row(1), ring(1), "stable"), ("parted", None, ("a",)))
        # The struck name is in no lot anyway, and just in the one it is struck.
        loop, hit = (names, (("b", "b"),)), (names, (("a", "b"), ("b", "b")))
        for kind in ("standing", "whole", "grounded", "preferred"):
            self.assertEqual(outward(loop, hit, kind), ("parted", "b", ("a",)))
            self.assertEqual(outward(hit, loop, kind), ("parted", "b", ("a",)))
        self.assertEqual(outward(loop, hit, "stable"), ("parted", None, ("a",)))

    def test_the_least_name_and_its_least_lot(self):
        names = tuple("abcde")
        loops = (("d", "d"), ("e", "e"))
        one = (names, tuple(sorted(loops + (("a", "e"), ("b", "d"), ("c", "d")))))
        other = (names, loops)
        # The least lot strikes the greater name alone.
        self.assertEqual(outward(one, other, "standing"), ("parted", "d", ("a", "b")))
        self.assertEqual(outward(one, other, "whole"), ("parted", "d", ("a", "b", "c")))
        self.assertEqual(outward((names, tuple(sorted(loops + (("a", "e"),)))), other, "standing"), ("parted", "e", ("a",)))

    def test_stable_never_tells_a_name(self):
        # A stable lot strikes just the names that it lacks.
        for one, other in itertools.product(all_webs(("a", "b")), repeat=2):
            self.assertIn(outward(one, other, "stable")[1:2], ((), (None,)))

    def test_alike_is_alike_outward(self):
        for web in all_webs(("a", "b")) + picked_webs(tuple("abcd"), 40):
            for kind in KINDS:
                self.assertEqual(outward(web, kernel_by_the_words(web, kind), kind), ("alike",))

    def test_just_where_all_webs_with_two_fresh_names_tell_the_same(self):
        puts = webs_outward(("a", "b"), ("y", "z"))
        for one, other in itertools.combinations(all_webs(("a", "b")), 2):
            for kind in KINDS:
                same = not any(lots_beside(one, other, kind, web) for web in puts)
                self.assertEqual(outward(one, other, kind) == ("alike",), same, (one, other, kind))

    def test_alike_beside_larger_webs(self):
        # Several fresh names that strike one another too.
        names, fresh = ("a", "b", "c"), ("p", "q", "r", "s")
        puts = [
            (web[0], tuple(strike for strike in web[1] if strike[1] in fresh))
            for web in picked_webs(names + fresh, 20, seed=3)
        ]
        found = 0
        for one, other in near_pairs(picked_webs(names, 25)):
            kinds = [kind for kind in KINDS if one != other and outward(one, other, kind) == ("alike",)]
            found += len(kinds)
            for kind in kinds:
                for web in puts:
                    self.assertEqual(lots_beside(one, other, kind, web), [], (one, other, kind, web))
        self.assertGreater(found, 50)

    def test_twelve_names(self):
        names = tuple(LETTERS[:12])
        bare, loops = (names, ()), (names, tuple(zip(names, names)))
        for kind in KINDS:
            self.assertEqual(outward(bare, bare, kind), ("alike",))
            self.assertEqual(outward(row(12), row(12), kind), ("alike",))
            self.assertEqual(outward(loops, (names, every_strike(names)), kind), ("alike",))
            self.assertEqual(outward(rivals(6), rivals(6), kind), ("alike",))
        self.assertEqual(outward(bare, row(12), "whole"), ("parted", None, names))
        self.assertEqual(outward(bare, loops, "standing"), ("parted", None, ("a",)))
        last = (names, (("l", "l"),))
        hit = (names, (("k", "l"), ("l", "l")))
        self.assertEqual(outward(last, hit, "preferred"), ("parted", "l", names[:11]))
        self.assertEqual(outward(last, hit, "standing"), ("parted", "l", names[:11]))
        self.assertEqual(outward(last, hit, "stable"), ("parted", None, names[:11]))

    def test_the_same_again_and_by_name(self):
        names = ("a", "b")
        loop, hit = (names, (("b", "b"),)), (names, (("a", "b"), ("b", "b")))
        for one, other in ((row(3), ring(3)), (ring(4), ring(4)), (((), ()), ((), ())), (loop, hit)):
            for kind in KINDS:
                self.steady(outward, one=one, other=other, kind=kind)

    def test_refused(self):
        for thing in NO_WEBS:
            self.refused(NoWeb, outward, thing, row(2), "stable")
            self.refused(NoWeb, outward, row(2), thing, "stable")
            self.refused(NoWeb, outward, row(2), thing, "none")
            self.refused(NoWeb, outward, kind=thing, other=thing, one=thing)
        for thing in NO_KINDS:
            self.refused(NoKind, outward, row(2), ring(2), thing)
            self.refused(NoKind, outward, kind=thing, other=row(12), one=row(12))
            self.refused(NoPair, outward, row(2), row(3), thing)
            self.refused(NoPair, outward, kind=thing, other=((), ()), one=row(1))

    def test_unlike_names(self):
        for one, other in (
            (((), ()), row(1)), (row(1), ((), ())), (row(2), row(3)), (row(12), row(6)), ((("a",), ()), (("b",), ())),
        ):
            for kind in KINDS:
                self.refused(NoPair, outward, one, other, kind)

    def test_names_as_in_the_interface(self):
        self.assertEqual(list(inspect.signature(outward).parameters), ["one", "other", "kind"])


if __name__ == "__main__":
    unittest.main()

"""Point [80], and what [2], [3] and [4] say of it."""

import inspect
import itertools
import unittest

from everalike.errors import NoKind, NoPair, NoWeb, TooMany
from everalike.within import within
from tests.helper import (
    KINDS, NO_KINDS, NO_WEBS, Asking, all_webs, every_strike, kernel_by_the_words, lots_beside, near_pairs, picked_webs,
    ring, row,
)


def one_by_one(one, other, kind):
    """What is to be told, by all rising tuples of strikes gone through one by one."""
    every = every_strike(one[0])
    for many in range(len(every) + 1):
        for strikes in sorted(itertools.combinations(every, many)):
            apart = lots_beside(one, other, kind, (one[0], strikes))
            if apart:
                return ("parted", strikes, apart[0])
    return ("alike",)


class Within(Asking, unittest.TestCase):

    def looked_at(self, one, other):
        """What is told of two webs, by kind, each compared with all strikes gone through one by one."""
        every = []
        for kind in KINDS:
            told = within(one, other, kind)
            self.assertIs(type(told), tuple)
            self.assertEqual(told, one_by_one(one, other, kind), (one, other, kind))
            every.append(told)
        return every

    def test_every_two_webs_of_up_to_two_names(self):
        for names in ((), ("a",), ("z",), ("a", "b"), ("b", "word")):
            for one, other in itertools.product(all_webs(names), repeat=2):
                self.looked_at(one, other)

    def test_three_names(self):
        every = []
        for pair in near_pairs(picked_webs(("a", "b", "c"), 15) + picked_webs(("b", "bb", "word"), 5, seed=5)):
            every += self.looked_at(*pair)
        webs = picked_webs(("a", "b", "c"), 30, seed=7)
        for one, other in zip(webs, webs[1:]):
            every += self.looked_at(one, other)
        # What takes no strike, one, or several to be told is among these.
        self.assertGreater(every.count(("alike",)), 100)
        self.assertLessEqual({0, 1, 2}, {len(told[1]) for told in every if told != ("alike",)})

    def test_by_hand(self):
        names = ("a", "b")
        for kind in KINDS:
            self.assertEqual(within(((), ()), ((), ()), kind), ("alike",))
            self.assertEqual(within(row(3), row(3), kind), ("alike",))
            self.assertEqual(within((names, (("a", "a"), ("b", "b"))), (names, every_strike(names)), kind), ("alike",))
        self.assertEqual(within((names, ()), row(2), "standing"), ("parted", (), ("a", "b")))
        self.assertEqual(within((names, ()), row(2), "whole"), ("parted", (), ("a",)))
        self.assertEqual(within(row(1), ring(1), "stable"), ("parted", (), ("a",)))
        # Both have the same preferred lot (a), until b strikes a: then it is one of the first alone, () of the second.
        one, other = (names, (("a", "b"), ("b", "b"))), (names, (("b", "b"),))
        self.assertEqual(within(one, other, "preferred"), ("parted", (("b", "a"),), ()))

    def test_alike_is_alike_within(self):
        for web in all_webs(("a", "b")) + picked_webs(tuple("abc"), 15):
            for kind in KINDS:
                self.assertEqual(within(web, kernel_by_the_words(web, kind), kind), ("alike",))

    def test_the_same_again_and_by_name(self):
        for one, other in ((row(3), ring(3)), (ring(3), ring(3)), (((), ()), ((), ())), (row(2), ring(2))):
            for kind in KINDS:
                self.steady(within, one=one, other=other, kind=kind)

    def test_refused(self):
        for thing in NO_WEBS:
            self.refused(NoWeb, within, thing, row(2), "stable")
            self.refused(NoWeb, within, row(2), thing, "stable")
            self.refused(NoWeb, within, row(4), thing, "none")
            self.refused(NoWeb, within, kind=thing, other=thing, one=thing)
        for thing in NO_KINDS:
            self.refused(NoKind, within, row(2), ring(2), thing)
            self.refused(NoKind, within, kind=thing, other=row(4), one=row(4))
            self.refused(NoPair, within, row(2), row(3), thing)
            self.refused(NoPair, within, row(5), row(4), thing)

    def test_unlike_names(self):
        for one, other in (
            (((), ()), row(1)), (row(1), ((), ())), (row(2), row(3)), (row(12), row(4)), ((("a",), ()), (("b",), ())),
        ):
            for kind in KINDS:
                self.refused(NoPair, within, one, other, kind)

    def test_too_many(self):
        for many in (4, 5, 12):
            for kind in KINDS:
                for error in (
                    self.refused(TooMany, within, row(many), ring(many), kind),
                    self.refused(TooMany, within, kind=kind, other=row(many), one=row(many)),
                ):
                    self.assertEqual((error.many, error.most), (many, 3))

    def test_names_as_in_the_interface(self):
        self.assertEqual(list(inspect.signature(within).parameters), ["one", "other", "kind"])


if __name__ == "__main__":
    unittest.main()

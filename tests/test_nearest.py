"""Point [50], and what [2], [3] and [4] say of it."""

import inspect
import itertools
import unittest

from everalike.alike import are_alike
from everalike.errors import NoChanges, NoKind, NoPair, NoWeb
from everalike.nearest import changed, made_alike
from everalike.webs import is_web
from tests.helper import (
    KINDS, LETTERS, NO_KINDS, NO_WEBS, ODD, Asking, all_webs, every_strike, kernel_by_the_words, picked_webs, ring,
    rivals, row, turned_by_hand,
)


def all_changes(names):
    """Every changes of a web of the names, the fewest first."""
    every = every_strike(names)
    return [some for many in range(len(every) + 1) for some in itertools.combinations(every, many)]


class Changed(Asking, unittest.TestCase):

    def test_taken_and_put(self):
        web = (("a", "b", "c"), (("a", "b"), ("b", "c")))
        self.assertEqual(changed(web, (("a", "b"),)), (("a", "b", "c"), (("b", "c"),)))
        self.assertEqual(changed(web, (("a", "a"),)), (("a", "b", "c"), (("a", "a"), ("a", "b"), ("b", "c"))))
        self.assertEqual(changed(web, (("a", "b"), ("c", "a"))), (("a", "b", "c"), (("b", "c"), ("c", "a"))))
        self.assertEqual(changed(web, (("a", "b"), ("b", "c"))), (("a", "b", "c"), ()))

    def test_no_changes(self):
        for web in (((), ()), row(1), ring(1), row(12), rivals(6)):
            self.assertEqual(changed(web, ()), web)

    def test_all_changes(self):
        for names in ((), ("a",), ("a", "b"), tuple(LETTERS[:12])):
            every = every_strike(names)
            self.assertEqual(changed((names, ()), every), (names, every))
            self.assertEqual(changed((names, every), every), (names, ()))
            self.assertEqual(changed((names, every), ()), (names, every))

    def test_one_by_one(self):
        for names in ((), ("a",), ("a", "b")):
            for web in all_webs(names):
                for changes in all_changes(names):
                    told = changed(web, changes)
                    self.assertTrue(is_web(told))
                    self.assertEqual(told, turned_by_hand(web, changes))
                    self.assertEqual(changed(told, changes), web)

    def test_larger_webs(self):
        webs = picked_webs(tuple(LETTERS[:6]), 30) + picked_webs(tuple(LETTERS[:6]), 30, seed=9)
        for web, other in zip(webs, webs[7:]):
            self.assertEqual(changed(web, other[1]), turned_by_hand(web, other[1]))

    def test_the_same_again_and_by_name(self):
        for web in (ring(2), row(3)):
            for changes in all_changes(("a", "b")):
                self.steady(changed, web=web, changes=changes)

    def test_refused(self):
        for thing in NO_WEBS:
            self.refused(NoWeb, changed, thing, ())
            self.refused(NoWeb, changed, changes=(), web=thing)
            self.refused(NoWeb, changed, thing, thing)
            self.refused(NoWeb, changed, thing, [("a", "a")])
        for thing in ODD + (
            (("b", "a"), ("a", "b")), (("a", "b"), ("a", "b")), (("a", "a"), ("b", "b"), ("a", "b")), (("a", "z"),),
            (("z", "a"),), (("a", "b"), ("b", "z")), [], [("a", "b")], ("a", "b"), (["a", "b"],), (("a", "b", "a"),),
            (("a",),), ((),), ("ab",), "a", "ab", "a>b", (("a", "b"), None), (("a", "b"), ["b", "b"]), (("a", None),),
            (("a", True),), ((("a",), "b"),), ((("a", "b"),),), {("a", "b"): True}, {"a": "b"}, ("a", ("a", "b")), row(2),
        ):
            self.refused(NoChanges, changed, row(2), thing)
            self.refused(NoChanges, changed, changes=thing, web=row(2))
        self.refused(NoChanges, changed, ((), ()), (("a", "a"),))

    def test_names_as_in_the_interface(self):
        self.assertEqual(list(inspect.signature(changed).parameters), ["web", "changes"])


class MadeAlike(Asking, unittest.TestCase):

    def fewest(self, one, other, kind, every):
        """All changes that make one alike with other and are as few as any, gone through one by one."""
        want = kernel_by_the_words(other, kind)
        found = [some for some in every if kernel_by_the_words(turned_by_hand(one, some), kind) == want]
        return [some for some in found if len(some) == len(found[0])]

    def test_one_by_one(self):
        for names in ((), ("a",), ("a", "b")):
            every = all_changes(names)
            for one, other in itertools.product(all_webs(names), repeat=2):
                for kind in KINDS:
                    told = made_alike(one, other, kind)
                    self.assertEqual([told], self.fewest(one, other, kind, every), (one, other, kind))

    def test_one_by_one_three_names(self):
        every = all_changes(("a", "b", "c"))
        webs = picked_webs(("a", "b", "c"), 12)
        for one, other in zip(webs, webs[5:] + webs[:5]):
            for kind in KINDS:
                told = made_alike(one, other, kind)
                self.assertEqual([told], self.fewest(one, other, kind, every), (one, other, kind))

    def test_nothing_just_where_alike(self):
        for one, other in itertools.product(all_webs(("a", "b")), repeat=2):
            for kind in KINDS:
                self.assertEqual(made_alike(one, other, kind) == (), are_alike(one, other, kind))

    def test_larger_webs(self):
        for names, many in ((tuple("abcdef"), 20), (tuple(LETTERS[:12]), 8)):
            webs = picked_webs(names, many)
            for one, other in zip(webs, webs[3:] + webs[:3]):
                for kind in KINDS:
                    told = made_alike(one, other, kind)
                    self.assertIs(type(told), tuple)
                    self.assertIs(are_alike(changed(one, told), other, kind), True)
                    # As idle strikes of both are left alone, none of the changes can be spared.
                    for at in range(len(told)):
                        self.assertIs(are_alike(changed(one, told[:at] + told[at + 1:]), other, kind), False)

    def test_what_is_idle_is_left_alone(self):
        names = ("a", "b")
        loops = (("a", "a"), ("b", "b"))
        for kind in KINDS:
            self.assertEqual(made_alike((names, every_strike(names)), (names, loops), kind), ())
            self.assertEqual(made_alike((names, (("a", "b"),)), (names, loops), kind), loops)
            self.assertEqual(
                made_alike((names, every_strike(names)), (names, ()), kind), every_strike(names),
            )
            self.assertEqual(made_alike(((), ()), ((), ()), kind), ())
        one, other = (names, (("a", "a"),)), (names, (("a", "a"), ("a", "b")))
        self.assertEqual(made_alike(one, other, "stable"), ())
        for kind in ("grounded", "preferred", "standing", "whole"):
            self.assertEqual(made_alike(one, other, kind), (("a", "b"),))

    def test_the_same_again_and_by_name(self):
        for one, other in ((row(4), ring(4)), (ring(3), ring(3)), (ring(2), (("a", "b"), every_strike("ab")))):
            for kind in KINDS:
                self.steady(made_alike, one=one, other=other, kind=kind)

    def test_refused(self):
        for thing in NO_WEBS:
            self.refused(NoWeb, made_alike, thing, row(2), "stable")
            self.refused(NoWeb, made_alike, row(2), thing, "stable")
            self.refused(NoWeb, made_alike, row(2), thing, "none")
            self.refused(NoWeb, made_alike, kind=thing, other=thing, one=thing)
        for thing in NO_KINDS:
            self.refused(NoKind, made_alike, row(2), ring(2), thing)
            self.refused(NoKind, made_alike, kind=thing, other=row(2), one=row(2))
            self.refused(NoPair, made_alike, row(2), row(3), thing)
            self.refused(NoPair, made_alike, kind=thing, other=((), ()), one=row(1))

    def test_unlike_names(self):
        for one, other in (
            (((), ()), row(1)), (row(1), ((), ())), (row(2), row(3)), (row(12), row(11)), ((("a",), ()), (("b",), ())),
            ((("a", "b"), (("a", "a"),)), (("a", "c"), (("a", "a"),))),
        ):
            for kind in KINDS:
                self.refused(NoPair, made_alike, one, other, kind)

    def test_names_as_in_the_interface(self):
        self.assertEqual(list(inspect.signature(made_alike).parameters), ["one", "other", "kind"])


if __name__ == "__main__":
    unittest.main()

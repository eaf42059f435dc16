"""Points [30] and [31], and what [2], [3] and [4] say of them."""

import inspect
import itertools
import unittest

from everalike.errors import NoKind, NoWeb
from everalike.kernels import fullest, how_many, kernel
from everalike.kinds import lots
from everalike.webs import is_web
from tests.helper import (
    KINDS, LETTERS, NO_KINDS, NO_WEBS, Asking, all_webs, every_strike, kernel_by_the_words, picked_webs, ring, rivals,
    row,
)

# Where the strike (a, b) is idle: "a" stands for a that strikes itself, "b" for b that does, "r" for b that strikes a.
IDLE = {
    "stable": ("a", "ab", "abr", "ar"),
    "standing": ("ab", "abr", "ar"),
    "preferred": ("ab", "abr", "ar"),
    "whole": ("ab", "abr"),
    "grounded": ("ab", "abr", "br"),
}
STRIKES = {"a": ("a", "a"), "b": ("b", "b"), "r": ("b", "a")}
CASES = ("", "a", "b", "r", "ab", "ar", "br", "abr")
THREE = (tuple("abc"), (("a", "a"), ("a", "b"), ("b", "b"), ("b", "c"), ("c", "a"), ("c", "b")))
SOME = [((), ()), row(1), ring(1), row(4), ring(2), ring(5), rivals(3), THREE, (tuple("abc"), every_strike("abc"))]


class Refused:

    def test_refused(self):
        for thing in NO_WEBS:
            self.refused(NoWeb, self.ask, thing, "stable")
            self.refused(NoWeb, self.ask, kind="whole", web=thing)
            self.refused(NoWeb, self.ask, thing, thing)
        for thing in NO_KINDS:
            self.refused(NoKind, self.ask, row(2), thing)
            self.refused(NoKind, self.ask, kind=thing, web=((), ()))
            self.refused(NoWeb, self.ask, (("b", "a"), ()), thing)

    def test_the_same_again_and_by_name(self):
        for web in SOME:
            for kind in KINDS:
                self.steady(self.ask, web=web, kind=kind)

    def test_names_as_in_the_interface(self):
        self.assertEqual(list(inspect.signature(self.ask).parameters), ["web", "kind"])


class Kernel(Refused, Asking, unittest.TestCase):
    ask = staticmethod(kernel)

    def test_each_clause(self):
        for kind in KINDS:
            for case in CASES:
                beside = [STRIKES[sign] for sign in case]
                web = (("a", "b"), tuple(sorted([("a", "b"), *beside])))
                told = kernel(web, kind)
                self.assertEqual(told[0], ("a", "b"))
                self.assertEqual(("a", "b") not in told[1], case in IDLE[kind], (kind, case))

    def test_each_clause_among_others(self):
        names = ("a", "b", "c", "d")
        others = (("a", "c"), ("c", "b"), ("d", "a"), ("d", "d"))
        for kind in KINDS:
            for case in CASES:
                beside = [STRIKES[sign] for sign in case]
                web = (names, tuple(sorted([("a", "b"), *beside, *others])))
                self.assertEqual(("a", "b") not in kernel(web, kind)[1], case in IDLE[kind], (kind, case))

    def test_both_strikes_of_two_at_once(self):
        both = (("a", "b"), (("a", "a"), ("a", "b"), ("b", "a"), ("b", "b")))
        for kind in KINDS:
            self.assertEqual(kernel(both, kind), (("a", "b"), (("a", "a"), ("b", "b"))))

    def test_of_three_names(self):
        loops = (("a", "a"), ("b", "b"))
        self.assertEqual(kernel(THREE, "stable"), (tuple("abc"), (("a", "a"), ("b", "b"), ("c", "a"), ("c", "b"))))
        self.assertEqual(kernel(THREE, "standing"), (tuple("abc"), (*loops, ("c", "a"), ("c", "b"))))
        self.assertEqual(kernel(THREE, "preferred"), kernel(THREE, "standing"))
        self.assertEqual(kernel(THREE, "whole"), (tuple("abc"), (*loops, ("b", "c"), ("c", "a"), ("c", "b"))))
        self.assertEqual(kernel(THREE, "grounded"), (tuple("abc"), (*loops, ("b", "c"), ("c", "a"))))

    def test_a_strike_at_itself_is_never_idle(self):
        for many in range(13):
            names = tuple(LETTERS[:many])
            own = tuple(zip(names, names))
            for kind in KINDS:
                self.assertEqual(kernel((names, own), kind), (names, own))
                self.assertEqual(kernel((names, every_strike(names)), kind), (names, own))

    def test_nothing_is_idle_where_none_strikes_itself(self):
        for web in (((), ()), row(1), row(12), ring(12), rivals(6), (tuple("abc"), ())):
            for kind in KINDS:
                self.assertEqual(kernel(web, kind), web)

    def test_by_the_words(self):
        webs = all_webs(("a",)) + all_webs(("a", "b")) + all_webs(("a", "b", "c"))
        for web in webs + picked_webs(tuple("abcdef"), 80) + picked_webs(tuple(LETTERS[:12]), 20):
            for kind in KINDS:
                self.assertEqual(kernel(web, kind), kernel_by_the_words(web, kind), (web, kind))

    def test_the_kernel_of_a_kernel(self):
        for web in all_webs(("a", "b", "c")) + picked_webs(tuple("abcde"), 60):
            for kind in KINDS:
                told = kernel(web, kind)
                self.assertTrue(is_web(told))
                self.assertEqual(kernel(told, kind), told)

    def test_the_same_lots(self):
        for web in all_webs(("a", "b", "c")) + picked_webs(tuple("abcde"), 60):
            for kind in KINDS:
                self.assertEqual(lots(kernel(web, kind), kind), lots(web, kind), (web, kind))


class Fullest(Refused, Asking, unittest.TestCase):
    ask = staticmethod(fullest)

    def looked_at(self, webs, some):
        """Compare with all webs of the same names gone through one by one."""
        for kind in KINDS:
            found = {}
            for web in webs:
                found.setdefault(kernel_by_the_words(web, kind), []).append(web[1])
            for web in some:
                alike = found[kernel_by_the_words(web, kind)]
                want = (web[0], tuple(sorted(set(itertools.chain(*alike)))))
                self.assertEqual(fullest(web, kind), want, (web, kind))
                self.assertIn(want[1], alike)

    def test_against_all_webs(self):
        for names in ((), ("a",), ("a", "b")):
            webs = all_webs(names)
            self.looked_at(webs, webs)
        webs = all_webs(("a", "b", "c"))
        self.looked_at(webs, webs[::7])

    def test_has_the_kernel(self):
        for web in picked_webs(tuple("abcdef"), 60) + picked_webs(tuple(LETTERS[:12]), 20):
            for kind in KINDS:
                told = fullest(web, kind)
                self.assertTrue(is_web(told))
                self.assertEqual(kernel(told, kind), kernel(web, kind))
                self.assertLessEqual(set(web[1]), set(told[1]))
                self.assertEqual(fullest(kernel(web, kind), kind), told)
                self.assertEqual(fullest(told, kind), told)

    def test_plain_ones(self):
        both = (("a", "b"), (("a", "a"), ("b", "b")))
        one = (("a", "b"), (("a", "a"),))
        for kind in KINDS:
            self.assertEqual(fullest(((), ()), kind), ((), ()))
            self.assertEqual(fullest(row(12), kind), row(12))
            self.assertEqual(fullest(both, kind), (("a", "b"), every_strike("ab")))
            want = (("a", "a"), ("a", "b")) if kind == "stable" else (("a", "a"),)
            self.assertEqual(fullest(one, kind), (("a", "b"), want))


class HowMany(Refused, Asking, unittest.TestCase):
    ask = staticmethod(how_many)

    def looked_at(self, webs, some):
        for kind in KINDS:
            kernels = [kernel_by_the_words(web, kind) for web in webs]
            for web in some:
                told = how_many(web, kind)
                self.assertIs(type(told), int)
                self.assertEqual(told, kernels.count(kernel_by_the_words(web, kind)), (web, kind))

    def test_against_all_webs(self):
        for names in ((), ("a",), ("a", "b")):
            webs = all_webs(names)
            self.looked_at(webs, webs)
        webs = all_webs(("a", "b", "c"))
        self.looked_at(webs, webs[::7])

    def test_without_names(self):
        for kind in KINDS:
            self.assertEqual(how_many(((), ()), kind), 1)

    def test_twelve_names(self):
        names = tuple(LETTERS[:12])
        for kind in KINDS:
            self.assertEqual(how_many((names, ()), kind), 1)
            self.assertEqual(how_many((names, every_strike(names)), kind), 2 ** 132)

    def test_each_kernel_once(self):
        # Told of one web of each kernel, the numbers make up all webs of three names.
        for kind in KINDS:
            found = {kernel_by_the_words(web, kind): web for web in all_webs(("a", "b", "c"))}
            self.assertEqual(sum(how_many(web, kind) for web in found.values()), 512)


if __name__ == "__main__":
    unittest.main()

"""Point [60] and the promise in [5], and what [2], [3] and [4] say of them."""

import inspect
import itertools
import unittest

from everalike.errors import NoKind, NoLot, NoPair, NoWeb, TooMany
from everalike.inward import inward, test_web
from everalike.webs import is_web
from tests.helper import (
    KINDS, LETTERS, NO_KINDS, NO_LOTS, NO_WEBS, Asking, all_lots, all_webs, every_strike, inward_web,
    kernel_by_the_words, lots_beside, near_pairs, picked_webs, ring, row, webs_inward,
)

BAD = (("b", "a"), ())


def tests_by_the_words(names):
    """Every test of webs of the names, by how many names it has, then as tuples compare."""
    every = itertools.product(all_lots(names), repeat=2)
    return sorted([test for test in every if not set(test[0]) & set(test[1])], key=lambda test: (len(sum(test, ())), test))


def one_by_one(one, other, kind):
    """What is to be told, by all tests gone through one by one."""
    for hit, held in tests_by_the_words(one[0]):
        apart = lots_beside(one, other, kind, inward_web(one[0], hit, held))
        if apart:
            return ("parted", hit, held, apart[0])
    return ("alike",)


class WebOfTest(Asking, unittest.TestCase):

    def test_names_and_strikes(self):
        web = (("c", "d", "e"), (("c", "d"),))
        told = test_web(web, (web[0], ()), ("c",), ("d", "e"))
        strikes = (("a", "c"), ("b", "b"), ("b", "d"), ("b", "e"))
        self.assertEqual(told, (("a", "b", "c", "d", "e"), strikes))
        self.assertEqual(test_web(web, web, ("c", "e"), ()), (("a", "c", "e"), (("a", "c"), ("a", "e"))))
        self.assertEqual(test_web(web, web, (), ("d",)), (("a", "b", "d"), (("b", "b"), ("b", "d"))))
        self.assertEqual(test_web(web, web, (), ()), (("a",), ()))
        self.assertEqual(test_web(((), ()), ((), ()), (), ()), (("a",), ()))

    def test_fresh_letters(self):
        for names, x, y in (
            (("a",), "b", "c"), (("b",), "a", "c"), (("a", "b"), "c", "d"), (("a", "c"), "b", "d"),
            (("a", "b", "d", "e"), "c", "f"), (("aa", "b"), "a", "c"), (("aa", "ab", "ba"), "a", "b"),
            (("a", "aa", "c", "zz"), "b", "d"), (tuple("abcdefghijkl"), "m", "n"), (tuple("bdfhjlnprtvx"), "a", "c"),
            (tuple("acdefghijklm"), "b", "n"), (("word", "words"), "a", "b"), (("x", "y", "z"), "a", "b"),
        ):
            web = (names, ())
            self.assertEqual(test_web(web, web, names[:1], ()), (tuple(sorted({x, names[0]})), ((x, names[0]),)))
            told = test_web(web, web, (), names[:1])
            self.assertEqual(told[0], tuple(sorted({x, y, names[0]})))
            self.assertEqual(told[1], tuple(sorted([(y, y), (y, names[0])])))

    def test_each_test(self):
        for names in ((), ("a",), ("a", "b"), ("b", "c"), ("a", "c", "e"), ("aa", "b", "bb"), ("b", "by", "z")):
            webs = picked_webs(names, 2)
            for hit, held in tests_by_the_words(names):
                told = test_web(webs[0], webs[1], hit, held)
                self.assertTrue(is_web(told))
                self.assertEqual(told, inward_web(names, hit, held))

    def test_strikes_of_the_webs_do_not_matter(self):
        for one, other in itertools.product(all_webs(("a", "b")), repeat=2):
            self.assertEqual(test_web(one, other, ("a",), ("b",)), test_web(row(2), row(2), ("a",), ("b",)))

    def test_webs_of_many_names(self):
        # No bound is told of test_web: twelve names of which each is hit or held make fourteen.
        names = tuple(LETTERS[:12])
        for hit, held in ((names, ()), ((), names), (names[:6], names[6:]), (names[::2], names[1::2]), (("a",), ("l",))):
            self.assertEqual(test_web(row(12), ring(12), hit, held), inward_web(names, hit, held))

    def test_the_same_again_and_by_name(self):
        for hit, held in tests_by_the_words(("a", "b", "c")):
            self.steady(test_web, one=row(3), other=ring(3), hit=hit, held=held)

    def test_refused(self):
        for thing in NO_WEBS:
            self.refused(NoWeb, test_web, thing, row(2), (), ())
            self.refused(NoWeb, test_web, row(2), thing, (), ())
            self.refused(NoWeb, test_web, row(2), thing, ("z",), ("z",))
            self.refused(NoWeb, test_web, held=thing, hit=thing, other=thing, one=thing)
        for thing in NO_LOTS:
            self.refused(NoLot, test_web, row(2), ring(2), thing, ())
            self.refused(NoLot, test_web, row(2), ring(2), (), thing)
            self.refused(NoLot, test_web, row(2), ring(2), thing, thing)
            self.refused(NoLot, test_web, held=thing, hit=("a",), other=row(2), one=row(2))
            self.refused(NoPair, test_web, row(2), row(3), thing, thing)

    def test_a_name_in_common(self):
        for hit, held in itertools.product(all_lots(("a", "b", "c")), repeat=2):
            if set(hit) & set(held):
                self.refused(NoLot, test_web, row(3), ring(3), hit, held)
                self.refused(NoLot, test_web, held=held, hit=hit, other=row(3), one=ring(3))

    def test_the_first_that_is_due(self):
        self.refused(NoWeb, test_web, BAD, row(2), ("z",), ("z",))
        self.refused(NoWeb, test_web, row(3), BAD, ("a",), ("a",))
        self.refused(NoPair, test_web, row(3), row(2), ("z",), ("a", "a"))
        self.refused(NoPair, test_web, row(3), row(2), ("a",), ("a",))
        self.refused(NoPair, test_web, ((), ()), row(1), None, None)

    def test_names_as_in_the_interface(self):
        self.assertEqual(list(inspect.signature(test_web).parameters), ["one", "other", "hit", "held"])


class Inward(Asking, unittest.TestCase):

    def looked_at(self, one, other):
        """The words told of two webs, by kind, each compared with all tests gone through one by one."""
        words = []
        for kind in KINDS:
            told = inward(one, other, kind)
            self.assertIs(type(told), tuple)
            self.assertEqual(told, one_by_one(one, other, kind), (one, other, kind))
            words.append(told[0])
        return words

    def test_every_two_webs_of_up_to_two_names(self):
        for names in ((), ("a",), ("b",), ("a", "b"), ("b", "word")):
            for one, other in itertools.product(all_webs(names), repeat=2):
                self.looked_at(one, other)

    def test_three_and_four_names(self):
        words = []
        for pair in near_pairs(picked_webs(("a", "c", "d"), 30)):
            words += self.looked_at(*pair)
        for pair in near_pairs(picked_webs(("a", "b", "bb", "z"), 3)):
            words += self.looked_at(*pair)
        webs = picked_webs(("a", "b", "c"), 30, seed=7)
        for one, other in zip(webs, webs[1:]):
            words += self.looked_at(one, other)
        self.assertGreater(words.count("alike"), 100)
        self.assertGreater(words.count("parted"), 100)

    def test_by_hand(self):
        names = ("a", "b")
        bare, hits = (names, ()), (names, (("a", "b"),))
        for kind in KINDS:
            self.assertEqual(inward(bare, bare, kind), ("alike",))
            self.assertEqual(inward(((), ()), ((), ()), kind), ("alike",))
        # Without a test's names only the fresh name is beside both.
        self.assertEqual(inward(bare, hits, "whole"), ("parted", (), (), ("a", "b", "c")))
        self.assertEqual(inward(bare, hits, "standing"), ("parted", (), (), ("a", "b")))
        self.assertEqual(inward(bare, hits, "stable"), ("parted", (), (), ("a", "b", "c")))
        loop, more = (names, (("a", "a"),)), (names, (("a", "a"), ("a", "b")))
        self.assertEqual(inward(loop, more, "stable"), ("alike",))
        self.assertEqual(inward(loop, more, "whole"), ("parted", (), (), ("b", "c")))
        for kind in KINDS:
            self.assertEqual(inward((names, (("a", "a"), ("b", "b"))), (names, every_strike(names)), kind), ("alike",))

    def test_hit_and_held_at_once(self):
        # Only where c is hit and d is held does it matter that b strikes a.
        names = ("a", "b", "c", "d")
        one, other = (names, (("b", "a"), ("c", "a"), ("d", "b"))), (names, (("c", "a"), ("d", "b")))
        for kind in ("grounded", "preferred", "whole"):
            self.assertEqual(inward(one, other, kind), ("parted", ("c",), ("d",), ("a", "e")))
            self.assertEqual(inward(other, one, kind), ("parted", ("c",), ("d",), ("a", "e")))
        self.looked_at(one, other)

    def test_the_first_of_several_tests(self):
        # Hitting c and holding a would part these too, behind hitting both.
        names = ("a", "b", "c", "d")
        one, other = (names, (("a", "b"), ("c", "d"))), (names, (("a", "b"), ("b", "d"), ("c", "d")))
        self.assertEqual(lots_beside(one, other, "grounded", inward_web(names, ("c",), ("a",))), [("d", "e"), ("e",)])
        self.assertEqual(inward(one, other, "grounded")[:3], ("parted", ("a", "c"), ()))
        self.looked_at(one, other)
        # Hitting d would part these too, behind holding it.
        one, other = (names, (("b", "a"), ("d", "b"))), (names, (("d", "b"),))
        self.assertEqual(inward(one, other, "grounded")[:3], ("parted", (), ("d",)))
        self.looked_at(one, other)

    def test_each_size_of_a_test_is_told(self):
        # Among few names are webs that nothing but a test of one or two names parts, hit or held.
        seen = set()
        for pair in near_pairs(picked_webs(("a", "b", "c"), 60)):
            for kind in KINDS:
                told = inward(*pair, kind)
                if told[0] == "parted":
                    seen.add((len(told[1]), len(told[2])))
        self.assertLessEqual({(0, 0), (1, 0), (0, 1), (2, 0)}, seen)

    def test_alike_is_alike_inward(self):
        for names in (("a", "b"), ("a", "b", "c")):
            webs = all_webs(names) if len(names) == 2 else picked_webs(names, 40)
            for one, other in near_pairs(webs):
                for kind in KINDS:
                    if kernel_by_the_words(one, kind) == kernel_by_the_words(other, kind):
                        self.assertEqual(inward(one, other, kind), ("alike",), (one, other, kind))

    def test_just_where_all_webs_with_two_fresh_names_tell_the_same(self):
        puts = webs_inward(("a", "b"), ("y", "z"))
        for one, other in itertools.combinations(all_webs(("a", "b")), 2):
            for kind in KINDS:
                same = not any(lots_beside(one, other, kind, web) for web in puts)
                self.assertEqual(inward(one, other, kind) == ("alike",), same, (one, other, kind))

    def test_alike_beside_larger_webs(self):
        # Several fresh names that strike one another too.
        fresh = ("p", "q", "r", "s")
        found = 0
        for names, many in ((("a", "b"), 12), (("a", "b", "c"), 30)):
            every = [strike for strike in every_strike(names + fresh) if strike[0] in fresh]
            puts = [
                (web[0], tuple(strike for strike in web[1] if strike in every))
                for web in picked_webs(tuple(sorted(names + fresh)), 20, seed=3)
            ]
            for one, other in near_pairs(picked_webs(names, many)):
                kinds = [kind for kind in KINDS if one != other and inward(one, other, kind) == ("alike",)]
                found += len(kinds)
                for kind in kinds:
                    for web in puts:
                        self.assertEqual(lots_beside(one, other, kind, web), [], (one, other, kind, web))
        self.assertGreater(found, 50)

    def test_five_names(self):
        names = tuple("abcde")
        bare = (names, ())
        for kind in KINDS:
            self.assertEqual(inward(row(5), row(5), kind), ("alike",))
            self.assertEqual(inward(bare, bare, kind), ("alike",))
            self.assertEqual(inward((names, every_strike(names)), (names, tuple(zip(names, names))), kind), ("alike",))
            told = inward(row(5), bare, kind)
            apart = lots_beside(row(5), bare, kind, (("f",), ()))
            self.assertEqual(told, ("parted", (), (), apart[0]))

    def test_the_same_again_and_by_name(self):
        for one, other in ((row(3), ring(3)), (ring(4), ring(4)), (((), ()), ((), ())), (row(2), ring(2))):
            for kind in KINDS:
                self.steady(inward, one=one, other=other, kind=kind)

    def test_refused(self):
        for thing in NO_WEBS:
            self.refused(NoWeb, inward, thing, row(2), "stable")
            self.refused(NoWeb, inward, row(2), thing, "stable")
            self.refused(NoWeb, inward, row(6), thing, "none")
            self.refused(NoWeb, inward, kind=thing, other=thing, one=thing)
        for thing in NO_KINDS:
            self.refused(NoKind, inward, row(2), ring(2), thing)
            self.refused(NoKind, inward, kind=thing, other=row(6), one=row(6))
            self.refused(NoPair, inward, row(2), row(3), thing)
            self.refused(NoPair, inward, row(7), row(6), thing)

    def test_unlike_names(self):
        for one, other in (
            (((), ()), row(1)), (row(1), ((), ())), (row(2), row(3)), (row(12), row(6)), ((("a",), ()), (("b",), ())),
        ):
            for kind in KINDS:
                self.refused(NoPair, inward, one, other, kind)

    def test_too_many(self):
        for many in (6, 7, 12):
            for kind in KINDS:
                for error in (
                    self.refused(TooMany, inward, row(many), ring(many), kind),
                    self.refused(TooMany, inward, kind=kind, other=row(many), one=row(many)),
                ):
                    self.assertEqual((error.many, error.most), (many, 5))

    def test_names_as_in_the_interface(self):
        self.assertEqual(list(inspect.signature(inward).parameters), ["one", "other", "kind"])


if __name__ == "__main__":
    unittest.main()

"""Point [40] and the promise in [5], and what [2], [3] and [4] say of them."""

import inspect
import itertools
import unittest

from everalike.alike import are_alike, kinds_alike, parting, parting_holds
from everalike.errors import NoKind, NoWeb, TooMany
from everalike.kinds import lots
from everalike.webs import is_web
from tests.helper import (
    KINDS, LETTERS, NO_KINDS, NO_WEBS, ODD, Asking, all_lots, all_webs, every_strike, idle_by_the_words,
    kernel_by_the_words, picked_webs, put_together, ring, rivals, row, words_of,
)

RISING_KINDS = ("grounded", "preferred", "stable", "standing", "whole")
FEW = [web for names in ("", "a", "b", "c", "ab") for web in all_webs(tuple(names))]
SIXES = picked_webs(tuple("abcdef"), 30)


def less_idle(web, kind):
    """A web that is alike with a web for a kind: without every other one of its idle strikes."""
    idle = [strike for strike in web[1] if idle_by_the_words(web, kind, strike)]
    return (web[0], tuple(strike for strike in web[1] if strike not in idle[::2]))


def is_parting(one, other, kind, web, lot):
    """Whether a lot is one of just one of two webs put together with a web, by the words of [11] and [20]."""
    return (lot in words_of(put_together(one, web))[kind]) != (lot in words_of(put_together(other, web))[kind])


class AreAlike(Asking, unittest.TestCase):

    def test_just_where_the_kernels_are_the_same(self):
        for one, other in itertools.product(FEW, repeat=2):
            for kind in KINDS:
                want = kernel_by_the_words(one, kind) == kernel_by_the_words(other, kind)
                self.assertIs(are_alike(one, other, kind), want, (one, other, kind))

    def test_larger_webs(self):
        for web in SIXES + picked_webs(tuple(LETTERS[:12]), 10):
            for kind in KINDS:
                self.assertIs(are_alike(web, web, kind), True)
                self.assertIs(are_alike(web, less_idle(web, kind), kind), True)
        for one, other in itertools.combinations(SIXES, 2):
            for kind in KINDS:
                want = kernel_by_the_words(one, kind) == kernel_by_the_words(other, kind)
                self.assertIs(are_alike(one, other, kind), want)

    def test_unlike_names(self):
        for kind in KINDS:
            self.assertIs(are_alike(((), ()), (("a",), ()), kind), False)
            self.assertIs(are_alike((("a",), ()), (("b",), ()), kind), False)
            self.assertIs(are_alike((("a",), (("a", "a"),)), ((), ()), kind), False)
            self.assertIs(are_alike((("a", "b"), (("a", "b"),)), (("a", "b", "c"), (("a", "b"),)), kind), False)

    def test_twelve_names(self):
        names, others = tuple(LETTERS[:12]), tuple(LETTERS[12:24])
        full, bare = (names, every_strike(names)), (names, tuple(zip(names, names)))
        for kind in KINDS:
            self.assertIs(are_alike(full, bare, kind), True)
            self.assertIs(are_alike(full, (names, ()), kind), False)
            self.assertIs(are_alike((names, ()), (others, ()), kind), False)

    def test_the_same_lots_whatever_is_put(self):
        # The promise itself, for webs of two names and every web of up to three names that may be put to them.
        others = [web for names in ("", "a", "c", "bc") for web in all_webs(tuple(names))] + all_webs(tuple("abc"))
        pairs = itertools.combinations(all_webs(("a", "b")), 2)
        for one, other in pairs:
            both = [(put_together(one, web), put_together(other, web)) for web in others]
            for kind in KINDS:
                same = all(words_of(first)[kind] == words_of(second)[kind] for first, second in both)
                self.assertIs(are_alike(one, other, kind), same, (one, other, kind))

    def test_the_same_again_and_by_name(self):
        for one, other in ((row(3), ring(3)), (ring(4), ring(4)), (((), ()), row(2))):
            for kind in KINDS:
                self.steady(are_alike, one=one, other=other, kind=kind)

    def test_refused(self):
        for thing in NO_WEBS:
            self.refused(NoWeb, are_alike, thing, row(2), "stable")
            self.refused(NoWeb, are_alike, row(2), thing, "stable")
            self.refused(NoWeb, are_alike, kind="stable", other=thing, one=row(2))
            self.refused(NoWeb, are_alike, row(2), thing, "none")
            self.refused(NoWeb, are_alike, thing, thing, thing)
        for thing in NO_KINDS:
            self.refused(NoKind, are_alike, row(2), row(2), thing)
            self.refused(NoKind, are_alike, row(2), row(3), thing)
            self.refused(NoKind, are_alike, kind=thing, other=row(12), one=ring(12))

    def test_names_as_in_the_interface(self):
        self.assertEqual(list(inspect.signature(are_alike).parameters), ["one", "other", "kind"])


class KindsAlike(Asking, unittest.TestCase):

    def test_all_some_none(self):
        names = ("a", "b")
        bare, loop, both = (names, ()), (names, (("a", "a"),)), (names, (("a", "a"), ("b", "b")))
        self.assertEqual(kinds_alike(bare, bare), RISING_KINDS)
        self.assertEqual(kinds_alike(both, (names, every_strike(names))), RISING_KINDS)
        self.assertEqual(kinds_alike(bare, loop), ())
        self.assertEqual(kinds_alike(bare, both), ())
        self.assertEqual(kinds_alike(loop, (names, (("a", "a"), ("a", "b")))), ("stable",))
        back = (names, (("a", "a"), ("b", "a")))
        self.assertEqual(
            kinds_alike(back, (names, (("a", "a"), ("a", "b"), ("b", "a")))), ("preferred", "stable", "standing"),
        )
        self.assertEqual(
            kinds_alike((names, (("a", "a"), ("a", "b"))), (names, (("a", "a"), ("a", "b"), ("b", "a")))), ("grounded",),
        )

    def test_without_names(self):
        self.assertEqual(kinds_alike(((), ()), ((), ())), RISING_KINDS)
        self.assertEqual(kinds_alike(((), ()), row(1)), ())

    def test_agrees_with_the_words(self):
        for one, other in itertools.product(FEW, repeat=2):
            want = [kind for kind in RISING_KINDS if kernel_by_the_words(one, kind) == kernel_by_the_words(other, kind)]
            self.assertEqual(kinds_alike(one, other), tuple(want), (one, other))

    def test_twelve_names(self):
        names = tuple(LETTERS[:12])
        self.assertEqual(kinds_alike((names, every_strike(names)), (names, tuple(zip(names, names)))), RISING_KINDS)
        self.assertEqual(kinds_alike(row(12), ring(12)), ())
        self.assertEqual(kinds_alike((names, ()), (tuple(LETTERS[12:24]), ())), ())

    def test_the_same_again_and_by_name(self):
        for one, other in ((row(3), ring(3)), (ring(4), ring(4)), (((), ()), row(2))):
            self.steady(kinds_alike, one=one, other=other)

    def test_refused(self):
        for thing in NO_WEBS:
            self.refused(NoWeb, kinds_alike, thing, row(2))
            self.refused(NoWeb, kinds_alike, row(2), thing)
            self.refused(NoWeb, kinds_alike, other=thing, one=thing)

    def test_names_as_in_the_interface(self):
        self.assertEqual(list(inspect.signature(kinds_alike).parameters), ["one", "other"])


class Parting(Asking, unittest.TestCase):

    def looked_at(self, one, other, kind):
        """What is told of two webs, looked at by the words."""
        told = parting(one, other, kind)
        self.assertIs(type(told), tuple)
        kernels = [kernel_by_the_words(web, kind) for web in (one, other)]
        if kernels[0] == kernels[1]:
            self.assertEqual(told, ("alike", kernels[0]), (one, other, kind))
            return
        self.assertEqual((len(told), told[0]), (3, "parted"), (one, other, kind))
        word, web, lot = told
        self.assertTrue(is_web(web), (one, other, kind))
        for strike in web[1]:
            self.assertTrue(any(name not in one[0] + other[0] for name in strike), (one, other, kind))
        for each in (one, other):
            self.assertLessEqual(len(put_together(each, web)[0]), 12, (one, other, kind))
        self.assertTrue(is_parting(one, other, kind, web, lot), (one, other, kind))
        self.assertIs(parting_holds(one, other, kind, told), True, (one, other, kind))

    def test_every_two_webs_of_up_to_two_names(self):
        for one, other in itertools.product(FEW, repeat=2):
            for kind in KINDS:
                self.looked_at(one, other, kind)

    def test_two_names_of_which_some_are_unlike(self):
        for one in all_webs(("a", "b")):
            for other in all_webs(("b", "c")) + all_webs(("x", "y"))[::3]:
                for kind in KINDS:
                    self.looked_at(one, other, kind)

    def test_larger_webs_of_the_same_names(self):
        for names, many in ((tuple("abc"), 60), (tuple("bdxyz"), 16)):
            webs = picked_webs(names, many)
            for one, other in zip(webs, webs[1:] + webs[:1]):
                for kind in KINDS:
                    self.looked_at(one, other, kind)

    def test_one_strike_more_or_less(self):
        # Where webs differ by little, what parts them must be about just that.
        for web in picked_webs(tuple("abc"), 20) + picked_webs(tuple("abcd"), 4):
            for strike in every_strike(web[0]):
                other = (web[0], tuple(sorted({*web[1]} ^ {strike})))
                for kind in KINDS:
                    self.looked_at(web, other, kind)
                    self.looked_at(other, web, kind)

    def test_larger_webs_of_unlike_names(self):
        for one, other in zip(picked_webs(tuple("abc"), 20), picked_webs(tuple("bcd"), 20, seed=5)):
            for kind in KINDS:
                self.looked_at(one, other, kind)
                self.looked_at(other, one, kind)
        for one, other in zip(picked_webs(tuple("abcd"), 8), picked_webs(tuple("bc"), 8, seed=5)):
            for kind in KINDS:
                self.looked_at(one, other, kind)

    def test_ten_names(self):
        names = tuple("abcdefwxyz")
        webs = picked_webs(names, 6)
        pairs = list(itertools.combinations(webs, 2)) + [(web, (names[:9], ())) for web in webs]
        pairs.append(((names[:5], ()), (names[5:], ())))
        for one, other in pairs:
            for kind in KINDS:
                told = parting(one, other, kind)
                self.assertEqual(told[0], "parted")
                both = [put_together(web, told[1]) for web in (one, other)]
                self.assertEqual([told[2] in lots(web, kind) for web in both].count(True), 1)
                self.assertTrue(all(set(strike) - set(names) for strike in told[1][1]))
        for web in webs:
            for kind in KINDS:
                told = parting(web, less_idle(web, kind), kind)
                self.assertEqual(told, ("alike", kernel_by_the_words(web, kind)))

    def test_alike(self):
        names = ("a", "b")
        for kind in KINDS:
            self.assertEqual(parting(((), ()), ((), ()), kind), ("alike", ((), ())))
            self.assertEqual(parting(row(3), row(3), kind), ("alike", row(3)))
            told = parting((names, every_strike(names)), (names, (("a", "a"), ("b", "a"), ("b", "b"))), kind)
            self.assertEqual(told, ("alike", (names, (("a", "a"), ("b", "b")))))

    def test_the_same_again_and_by_name(self):
        for one, other in ((ring(4), ring(4)), (ring(1), ring(1))):
            for kind in KINDS:
                self.steady(parting, one=one, other=other, kind=kind)
        for one, other in ((row(3), ring(3)), (((), ()), row(2))):
            before = repr((one, other))
            for kind in KINDS:
                for told in (parting(one, other, kind), parting(kind=kind, other=other, one=one)):
                    self.assertIs(parting_holds(one, other, kind, told), True)
            self.assertEqual(repr((one, other)), before)


class PartingHolds(Asking, unittest.TestCase):

    def right(self, one, other, kind, thing):
        self.assertIs(parting_holds(one, other, kind, thing), True, (one, other, kind, thing))

    def wrong(self, one, other, kind, thing):
        before = repr(thing)
        self.assertIs(parting_holds(one, other, kind, thing), False, (one, other, kind, before[:200]))
        self.assertEqual(repr(thing), before)

    def test_alike(self):
        names = ("a", "b")
        one, other = (names, (("a", "a"), ("a", "b"))), (names, (("a", "a"),))
        self.right(one, other, "stable", ("alike", other))
        self.wrong(one, other, "stable", ("alike", one))
        self.wrong(one, other, "stable", ("alike", (names, ())))
        self.wrong(one, other, "stable", ("alike", ((), ())))
        self.wrong(one, other, "stable", ("parted", other))
        for kind in ("grounded", "preferred", "standing", "whole"):
            # They are not alike for these, so neither one's kernel shows it.
            self.wrong(one, other, kind, ("alike", one))
            self.wrong(one, other, kind, ("alike", other))
        for kind in KINDS:
            self.right(((), ()), ((), ()), kind, ("alike", ((), ())))
            self.right(row(10), row(10), kind, ("alike", row(10)))
            self.wrong(row(3), row(2), kind, ("alike", row(3)))
            self.wrong(row(3), row(2), kind, ("alike", row(2)))

    def test_whatever_parting_tells(self):
        webs = FEW + picked_webs(tuple("abcd"), 4) + picked_webs(tuple(LETTERS[:8]), 2)
        for one, other in itertools.product(webs[::3], webs[::2]):
            for kind in KINDS:
                told = parting(one, other, kind)
                self.right(one, other, kind, told)
                self.right(other, one, kind, told)

    def test_against_the_words(self):
        # Each web of up to two names and each lot, as what parts two webs.
        puts = [web for names in ("", "a", "c", "ac") for web in all_webs(tuple(names))]
        webs = all_webs(("a", "b"))
        for one, other in zip(webs, webs[5:] + webs[:5]):
            for kind in KINDS:
                for web in puts:
                    for lot in all_lots(("a", "b", "c")):
                        want = is_parting(one, other, kind, web, lot)
                        self.assertIs(parting_holds(one, other, kind, ("parted", web, lot)), want)

    def test_strikes_between_their_own_names(self):
        one, other = (("a", "b"), ()), (("a", "b"), (("a", "b"),))
        put = (("a", "b"), (("b", "a"),))
        self.right(one, other, "standing", ("parted", put, ("a",)))
        self.right(one, other, "grounded", ("parted", put, ("b",)))
        self.right(one, other, "grounded", ("parted", put, ()))
        self.right(one, other, "whole", ("parted", ((), ()), ("a", "b")))
        self.right(one, other, "stable", ("parted", ((), ()), ("a",)))

    def test_a_lot_of_both_or_of_none(self):
        one, other = (("a", "b"), ()), (("a", "b"), (("a", "b"),))
        nothing = ((), ())
        self.wrong(one, other, "standing", ("parted", nothing, ()))
        self.wrong(one, other, "standing", ("parted", nothing, ("a",)))
        self.right(one, other, "standing", ("parted", nothing, ("b",)))
        self.right(one, other, "standing", ("parted", nothing, ("a", "b")))
        self.wrong(one, other, "whole", ("parted", nothing, ()))
        self.wrong(one, other, "whole", ("parted", nothing, ("b",)))
        for kind in KINDS:
            for lot in all_lots(("a", "b")):
                self.wrong(one, other, kind, ("parted", (("a", "b"), (("a", "a"), ("a", "b"), ("b", "b"))), lot))
                self.wrong(one, one, kind, ("parted", nothing, lot))

    def test_too_many_names_to_put_together(self):
        one, other = (("a",), ()), ((), ())
        free = tuple(LETTERS[1:12])
        for kind in KINDS:
            self.right(one, other, kind, ("parted", (free, ()), ("a", *free)))
            # Twelve names beside it: with the other one they are just enough, with the first one too many.
            wide = tuple(LETTERS[1:13])
            self.wrong(one, other, kind, ("parted", (wide, ()), wide))
            self.wrong(other, one, kind, ("parted", (wide, ()), wide))
            self.wrong(one, other, kind, ("parted", (wide, ()), ("a", *wide)))
        ten, less = row(10), row(9)
        hits = tuple(("k", name) for name in LETTERS[:9])
        for kind in KINDS:
            self.right(ten, less, kind, ("parted", (tuple("abcdefghikl"), hits), tuple("jkl")))
            self.wrong(ten, less, kind, ("parted", (tuple("abcdefghiklm"), hits), tuple("jklm")))
            self.wrong(ten, less, kind, ("parted", (tuple("abcdefghiklm"), hits), tuple("klm")))

    def test_what_has_another_form(self):
        one, other = row(2), ring(2)
        for kind in KINDS:
            word, web, lot = told = parting(one, other, kind)
            self.right(one, other, kind, told)
            for thing in (
                list(told), [word, web, lot], (word, list(web), lot), (word, (list(web[0]), web[1]), lot),
                (word, (web[0], list(web[1])), lot), (word, web, list(lot)), (word, web), (word, lot), (web, lot),
                (word,), (), (word, web, lot, lot), (word, word, web, lot), (word, web, web, lot), told + told, (told,),
                (told, told), (word, lot, web), (web, word, lot), ("alike", web, lot), ("alike", web), ("part", web, lot),
                ("Parted", web, lot), (None, web, lot), (word, web, None), (word, None, lot), (word, web[0], lot),
                (word, (web[0],), lot), (word, (web[0], web[1], ()), lot), (word, (web[0][::-1], web[1]), lot),
                (word, (web[0] * 2, web[1]), lot), (word, (web[0], web[1] * 2), lot), (word, web, lot[::-1] + lot),
                (word, web, lot + ("zz",)), {word: web}, word, [word], (word, web, (lot,)),
            ):
                self.wrong(one, other, kind, thing)
            alike = ("alike", one)
            self.right(one, one, kind, alike)
            for thing in (
                list(alike), ("alike",), (one,), ("alike", one, one), ("alike", "alike", one), ("alike", list(one)),
                ("alike", one[0]), ("alike", one, ()), (one, "alike"), "alike", {"alike": one}, (alike,), alike + alike,
                ("alike", (one[0], one[1] * 2)), ("alike", (list(one[0]), one[1])), ("alike", None), ("Alike", one),
            ):
                self.wrong(one, one, kind, thing)

    def test_of_anything(self):
        for kind in KINDS:
            for thing in NO_WEBS:
                for one, other in ((row(2), row(2)), (row(2), ring(2)), (((), ()), ((), ()))):
                    self.wrong(one, other, kind, thing)
                self.wrong(row(2), row(2), kind, ("alike", thing))
                self.wrong(row(2), ring(2), kind, ("parted", thing, ()))
                self.wrong(row(2), ring(2), kind, ("parted", thing, thing))
                self.wrong(row(2), ring(2), kind, (thing, ((), ()), ()))
            for thing in ODD:
                self.wrong(row(2), ring(2), kind, ("parted", ((), ()), thing))

    def test_the_same_again_and_by_name(self):
        for kind in KINDS:
            for one, other in ((row(2), ring(2)), (row(3), row(3))):
                for thing in (parting(one, other, kind), ("parted", ((), ()), ()), ["alike"], {}):
                    self.steady(parting_holds, one=one, other=other, kind=kind, thing=thing)


class BothRefused(Asking, unittest.TestCase):
    """What parting and parting_holds refuse."""

    def each(self, error, one, other, kind):
        caught = []
        for thing in (("alike", one), None):
            caught.append(self.refused(error, parting_holds, one, other, kind, thing))
            caught.append(self.refused(error, parting_holds, thing=thing, kind=kind, other=other, one=one))
        caught.append(self.refused(error, parting, one, other, kind))
        caught.append(self.refused(error, parting, kind=kind, other=other, one=one))
        return caught

    def test_too_many(self):
        wide = tuple(LETTERS[:11])
        for one, other, many in (
            ((wide, ()), (wide, ()), 11),
            ((wide, ()), ((), ()), 11),
            (((), ()), row(12), 12),
            (row(10), (tuple("bcz"), ()), 11),
            ((tuple("abcdef"), ()), (tuple("ghijkl"), ()), 12),
            ((tuple(LETTERS[:12]), ()), (tuple(LETTERS[12:24]), ()), 24),
        ):
            for kind in KINDS:
                for error in self.each(TooMany, one, other, kind):
                    self.assertEqual((error.many, error.most), (many, 10))

    def test_ten_names_are_taken(self):
        for one, other in (
            (row(10), row(10)), (row(10), ((), ())), ((tuple("abcde"), ()), (tuple("fghij"), ())), (row(10), ring(10)),
        ):
            for kind in KINDS:
                self.assertIs(parting_holds(one, other, kind, parting(one, other, kind)), True)

    def test_no_web(self):
        for thing in NO_WEBS:
            self.each(NoWeb, thing, row(2), "stable")
            self.each(NoWeb, row(2), thing, "stable")
            self.each(NoWeb, thing, row(12), "none")
            self.each(NoWeb, row(12), thing, "none")
            self.each(NoWeb, thing, thing, thing)

    def test_no_kind(self):
        for thing in NO_KINDS:
            self.each(NoKind, row(2), row(2), thing)
            self.each(NoKind, row(12), rivals(3), thing)
            self.each(NoKind, (tuple(LETTERS[:12]), ()), (tuple(LETTERS[12:24]), ()), thing)

    def test_names_as_in_the_interface(self):
        self.assertEqual(list(inspect.signature(parting).parameters), ["one", "other", "kind"])
        self.assertEqual(list(inspect.signature(parting_holds).parameters), ["one", "other", "kind", "thing"])


if __name__ == "__main__":
    unittest.main()

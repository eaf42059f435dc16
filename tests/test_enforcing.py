"""Point [51], and what [2], [3] and [4] say of it."""

import inspect
import itertools
import unittest

from everalike.enforcing import enforced
from everalike.errors import NoCount, NoKind, NoLot, NoShut, NoWeb, TooMany
from tests.helper import (
    LETTERS, NO_KINDS, NO_LOTS, NO_WEBS, ODD, Asking, all_lots, all_webs, every_strike, picked_webs, ring, row,
    turned_by_hand, words_of,
)

KINDS = ("standing", "whole", "stable")
BAD_WEB, SIX, BAD_LOT = (("b", "a"), ()), row(6), ("b", "a")
NO_COUNTS = [
    thing for thing in ODD + ((), "a", "3", "0", (3,), [3], {3: 3}, 5, 6, -2) if repr(thing) not in ("0", "1", "2", "3", "4")
]
NO_TRUTHS = [thing for thing in ODD + ((), "a", "True", (True,), [False]) if thing is not True and thing is not False]


def is_reached(web, lot, kind, strict):
    """Whether a lot is one of a kind, or within one, by the words of [20]."""
    told = words_of(web)[kind]
    return lot in told if strict else any(set(lot) <= set(other) for other in told)


def one_by_one(web, lot, kind, strict, most):
    """The fewest changes, of several the least, gone through one by one."""
    for many in range(most + 1):
        found = [
            changes for changes in itertools.combinations(every_strike(web[0]), many)
            if is_reached(turned_by_hand(web, changes), lot, kind, strict)
        ]
        if found:
            return min(found)
    return None


class Enforced(Asking, unittest.TestCase):

    def told(self, want, web, lot, kind, **named):
        self.assertEqual(enforced(web, lot, kind, **named), want, (web, lot, kind, named))

    def test_one_by_one_up_to_two_names(self):
        for names in ((), ("a",), ("a", "b")):
            for web in all_webs(names):
                for lot, kind, strict, most in itertools.product(all_lots(names), KINDS, (True, False), range(5)):
                    want = one_by_one(web, lot, kind, strict, most)
                    self.told(want, web, lot, kind, strict=strict, most=most)

    def test_one_by_one_three_names(self):
        for web in picked_webs(("a", "b", "c"), 15):
            for lot, kind, strict in itertools.product(all_lots(web[0]), KINDS, (True, False)):
                want = one_by_one(web, lot, kind, strict, 3)
                self.told(want, web, lot, kind, strict=strict)

    def test_one_by_one_four_names(self):
        for web in picked_webs(tuple("abcd"), 5):
            for lot, kind, strict in itertools.product(all_lots(web[0])[::3], KINDS, (True, False)):
                want = one_by_one(web, lot, kind, strict, 2)
                self.told(want, web, lot, kind, strict=strict, most=2)

    def test_five_names(self):
        for web in (row(5), ring(5), (tuple("abcde"), ()), *picked_webs(tuple("abcde"), 3)):
            for lot, kind, strict in itertools.product(all_lots(web[0])[::5], KINDS, (True, False)):
                told = enforced(web, lot, kind, strict=strict)
                if told is not None:
                    self.assertEqual(list(told), sorted(set(told)))
                    self.assertLessEqual(len(told), 3)
                    self.assertTrue(is_reached(turned_by_hand(web, told), lot, kind, strict))

    def test_nothing_to_change(self):
        for most in range(5):
            self.told((), row(3), ("a", "c"), "stable", most=most)
            self.told((), row(3), ("a",), "standing", most=most)
            self.told((), row(3), ("c",), "whole", strict=False, most=most)
            self.told((), ((), ()), (), "stable", most=most)
        self.assertIs(type(enforced(((), ()), (), "whole")), tuple)

    def test_the_least_of_several(self):
        self.told((("a", "b"),), row(2), ("b",), "standing")
        self.told((("a", "b"),), row(2), ("a", "b"), "stable")
        self.told((("a", "b"),), (("a", "b", "c"), (("a", "b"), ("a", "c"))), ("b",), "standing")
        self.told((("a", "c"), ("b", "c")), (("a", "b", "c"), (("a", "c"), ("b", "c"))), ("c",), "standing")
        self.told((("a", "a"),), (("a",), ()), (), "whole")
        self.told((("a", "b"),), (("a", "b"), ()), ("a",), "whole")
        self.told((("a", "a"), ("a", "b")), (("a", "b"), ()), (), "whole")

    def test_more_than_most(self):
        names = ("a", "b")
        full = (names, every_strike(names))
        for kind in KINDS:
            self.told(None, full, names, kind, most=3)
            self.told(every_strike(names), full, names, kind, most=4)
            self.told(None, full, names, kind, strict=False)
        wide = tuple("abcde")
        for kind in KINDS:
            self.told(None, (wide, every_strike(wide)), wide, kind, most=4)
            self.told(None, (wide, every_strike(wide)), wide, kind, most=4, strict=False)
        self.told(None, (wide, ()), (), "whole", most=4)
        self.told((("a", "a"), ("a", "b"), ("a", "c"), ("a", "d")), (wide[:4], ()), (), "whole", most=4)
        self.told(None, (wide[:4], ()), (), "whole", most=3)

    def test_never(self):
        for most in range(5):
            self.told(None, (("a",), ()), (), "stable", most=most)
            self.told((), (("a",), ()), (), "stable", most=most, strict=False)

    def test_strict_or_not(self):
        names = ("a", "b")
        self.told((("a", "b"),), (names, ()), ("a",), "stable", strict=True)
        self.told((), (names, ()), ("a",), "stable", strict=False)
        self.told((("a", "b"),), (names, ()), ("a",), "whole", strict=True)
        self.told((), (names, ()), ("a",), "whole", strict=False)

    def test_what_is_left_out(self):
        names = ("a", "b")
        full = (names, every_strike(names))
        three = (tuple("abc"), (("a", "a"), ("b", "b"), ("c", "c")))
        self.told(None, full, names, "standing")
        self.told(three[1], three, three[0], "standing")
        for web in (full, three, (names, ()), row(4), (tuple("abcde"), ())):
            for lot, kind in itertools.product(all_lots(web[0])[:9], KINDS):
                both = enforced(web, lot, kind, strict=True, most=3)
                self.told(both, web, lot, kind)
                self.told(both, web, lot, kind, strict=True)
                self.told(both, web, lot, kind, most=3)
        self.assertEqual(
            str(inspect.signature(enforced)), "(web, lot, kind, *, strict=True, most=3)",
        )

    def test_the_same_again_and_by_name(self):
        for web, lot in ((row(3), ("b",)), (ring(3), ("a", "b")), (((), ()), ()), ((tuple("abcde"), ()), ())):
            for kind in KINDS:
                want = self.steady(enforced, web=web, lot=lot, kind=kind)
                self.assertEqual(enforced(most=3, kind=kind, strict=True, lot=lot, web=web), want)
                self.assertEqual(enforced(web, lot, most=3, strict=True, kind=kind), want)

    def test_by_name_alone(self):
        with self.assertRaises(TypeError):
            enforced(row(2), (), "whole", True)
        with self.assertRaises(TypeError):
            enforced(row(2), (), "whole", True, 3)


class Refused(Asking, unittest.TestCase):

    def test_no_web(self):
        for thing in NO_WEBS:
            self.refused(NoWeb, enforced, thing, (), "whole")
            self.refused(NoWeb, enforced, most=thing, strict=thing, kind=thing, lot=thing, web=thing)

    def test_too_many(self):
        for many in range(6, 13):
            for web in (row(many), (tuple(LETTERS[:many]), ())):
                for kind in KINDS:
                    error = self.refused(TooMany, enforced, web, (), kind)
                    self.assertEqual((error.many, error.most), (many, 5))
        self.assertEqual(enforced(row(5), (), "standing"), ())

    def test_no_lot(self):
        for thing in NO_LOTS:
            for kind in KINDS:
                self.refused(NoLot, enforced, row(2), thing, kind)
                self.refused(NoLot, enforced, row(2), thing, kind, strict=False)
        self.refused(NoLot, enforced, ((), ()), ("a",), "standing")

    def test_no_kind(self):
        for thing in NO_KINDS + ("grounded", "preferred"):
            self.refused(NoKind, enforced, row(2), (), thing)
            self.refused(NoKind, enforced, strict=False, kind=thing, lot=("a",), web=row(2))

    def test_no_shut(self):
        for thing in NO_TRUTHS:
            for kind in KINDS:
                self.refused(NoShut, enforced, row(2), (), kind, strict=thing)

    def test_no_count(self):
        for thing in NO_COUNTS:
            for kind in KINDS:
                self.refused(NoCount, enforced, row(2), (), kind, most=thing)
                self.refused(NoCount, enforced, row(2), (), kind, most=thing, strict=False)
        for thing in (True, False, -1, 5, "3"):
            self.assertIn(repr(thing), [repr(each) for each in NO_COUNTS])
        for thing in (0, 1, None):
            self.assertIn(repr(thing), [repr(each) for each in NO_TRUTHS])

    def test_the_first_of_two_that_are_due(self):
        # In the interface's order: what is right and what is wrong of each part, and the refusal due.
        right = {"web": row(2), "lot": (), "kind": "whole", "strict": True, "most": 3}
        wrong = [
            (NoWeb, {"web": BAD_WEB}), (TooMany, {"web": SIX}), (NoLot, {"lot": BAD_LOT}), (NoKind, {"kind": "grounded"}),
            (NoShut, {"strict": 1}), (NoCount, {"most": 5}),
        ]
        for (error, part), (later, other) in itertools.combinations(wrong, 2):
            if part.keys() != other.keys():
                self.refused(error, enforced, **{**right, **other, **part})
        self.refused(NoWeb, enforced, BAD_WEB, BAD_LOT, "none", strict=None, most=None)
        self.refused(TooMany, enforced, SIX, BAD_LOT, "none", strict=None, most=None)
        self.refused(NoLot, enforced, row(2), BAD_LOT, "none", strict=None, most=None)
        self.refused(NoKind, enforced, row(2), (), "none", strict=None, most=None)
        self.refused(NoShut, enforced, row(2), (), "whole", strict=None, most=None)
        # A web of more names than any has is none, and not one of too many.
        self.refused(NoWeb, enforced, (tuple(LETTERS[:13]), ()), (), "whole")


if __name__ == "__main__":
    unittest.main()

"""Point [20], and what [2], [3] and [4] say of it."""

import inspect
import unittest

from everalike.errors import NoKind, NoWeb
from everalike.kinds import is_lot_of, lots
from tests.helper import (
    KINDS, LETTERS, NO_WEBS, ODD, Asking, all_lots, all_webs, by_the_words, every_strike, picked_webs, ring, rivals, row,
)

NOTHING = [()]


class Lots(Asking, unittest.TestCase):

    def told(self, web, **want):
        for kind in KINDS:
            self.assertEqual(self.own(lots, web, kind), want[kind], (web, kind))

    def alike(self, web):
        want = by_the_words(web)
        for kind in KINDS:
            self.assertEqual(lots(web, kind), want[kind], (web, kind))

    def test_without_names(self):
        self.told(((), ()), standing=NOTHING, whole=NOTHING, grounded=NOTHING, preferred=NOTHING, stable=NOTHING)

    def test_without_strikes(self):
        all_three = [("a", "b", "c")]
        self.told(
            (("a", "b", "c"), ()),
            standing=[(), ("a",), ("a", "b"), ("a", "b", "c"), ("a", "c"), ("b",), ("b", "c"), ("c",)],
            whole=all_three, grounded=all_three, preferred=all_three, stable=all_three,
        )

    def test_twelve_without_strikes(self):
        names = tuple(LETTERS[:12])
        self.assertEqual(lots((names, ()), "standing"), all_lots(names))
        for kind in ("whole", "grounded", "preferred", "stable"):
            self.assertEqual(lots((names, ()), kind), [names])

    def test_rows(self):
        self.told(row(2), standing=[(), ("a",)], whole=[("a",)], grounded=[("a",)], preferred=[("a",)], stable=[("a",)])
        ends = [("a", "c")]
        self.told(row(3), standing=[(), ("a",), ("a", "c")], whole=ends, grounded=ends, preferred=ends, stable=ends)
        for many in range(1, 13):
            for kind in ("whole", "grounded", "preferred", "stable"):
                self.assertEqual(lots(row(many), kind), [tuple(LETTERS[:many:2])])

    def test_rings_of_odd_length(self):
        for many in (3, 5, 7, 9, 11):
            self.told(ring(many), standing=NOTHING, whole=NOTHING, grounded=NOTHING, preferred=NOTHING, stable=[])

    def test_rings_of_even_length(self):
        for many in (2, 4, 6, 8, 10, 12):
            both = [tuple(LETTERS[:many:2]), tuple(LETTERS[1:many:2])]
            self.told(
                ring(many), standing=[(), *both], whole=[(), *both], grounded=NOTHING, preferred=both, stable=both,
            )

    def test_names_that_strike_themselves(self):
        self.told(ring(1), standing=NOTHING, whole=NOTHING, grounded=NOTHING, preferred=NOTHING, stable=[])
        self.told(
            (("a", "b"), (("a", "a"),)),
            standing=[(), ("b",)], whole=[("b",)], grounded=[("b",)], preferred=[("b",)], stable=[],
        )
        self.told(
            (("a", "b"), (("a", "a"), ("a", "b"))),
            standing=NOTHING, whole=NOTHING, grounded=NOTHING, preferred=NOTHING, stable=[],
        )
        self.told(
            (("a", "b"), (("a", "a"), ("a", "b"), ("b", "a"))),
            standing=[(), ("b",)], whole=[(), ("b",)], grounded=NOTHING, preferred=[("b",)], stable=[("b",)],
        )

    def test_preferred_that_is_not_stable(self):
        web = (tuple("abcde"), (("a", "b"), ("b", "a"), ("b", "c"), ("c", "d"), ("d", "e"), ("e", "c")))
        self.told(
            web, standing=[(), ("a",), ("b",), ("b", "d")], whole=[(), ("a",), ("b", "d")], grounded=NOTHING,
            preferred=[("a",), ("b", "d")], stable=[("b", "d")],
        )

    def test_defended_through_others(self):
        web = (tuple("abcde"), (("a", "b"), ("b", "c"), ("d", "e"), ("e", "d")))
        self.assertEqual(lots(web, "grounded"), [("a", "c")])
        self.assertEqual(lots(web, "whole"), [("a", "c"), ("a", "c", "d"), ("a", "c", "e")])

    def test_pairs_of_rivals(self):
        self.assertEqual(lots(rivals(2), "preferred"), [("a", "c"), ("a", "d"), ("b", "c"), ("b", "d")])
        for many in range(7):
            web = rivals(many)
            self.assertEqual([len(lots(web, kind)) for kind in KINDS], [3 ** many, 3 ** many, 1, 2 ** many, 2 ** many])
            self.assertEqual(lots(web, "preferred"), lots(web, "stable"))

    def test_every_strike(self):
        names = tuple(LETTERS[:12])
        self.told(
            (names, every_strike(names)),
            standing=NOTHING, whole=NOTHING, grounded=NOTHING, preferred=NOTHING, stable=[],
        )

    def test_longer_names_rise_as_texts(self):
        web = (("a", "aa", "b"), (("a", "b"), ("b", "a")))
        self.assertEqual(lots(web, "standing"), [(), ("a",), ("a", "aa"), ("aa",), ("aa", "b"), ("b",)])

    def test_by_the_words_all_webs_of_few_names(self):
        for names in ((), ("a",), ("a", "b"), ("a", "b", "c")):
            for web in all_webs(names):
                self.alike(web)

    def test_by_the_words_some_webs(self):
        for many, count in ((4, 400), (5, 200), (6, 60), (8, 12)):
            for web in picked_webs(tuple(LETTERS[:many]), count):
                self.alike(web)

    def test_what_holds_of_all(self):
        for web in picked_webs(tuple(LETTERS[:12]), 25):
            told = {kind: lots(web, kind) for kind in KINDS}
            for kind in KINDS:
                self.assertEqual(told[kind], sorted(set(told[kind])))
            self.assertEqual(len(told["grounded"]), 1)
            self.assertTrue(set(told["stable"]) <= set(told["preferred"]) <= set(told["whole"]) <= set(told["standing"]))

    def test_the_same_again_and_by_name(self):
        for web in (((), ()), row(4), ring(4), rivals(2), ring(3)):
            for kind in KINDS:
                self.steady(lots, web=web, kind=kind)

    def test_refused(self):
        for kind in KINDS:
            for thing in NO_WEBS:
                self.refused(NoWeb, lots, thing, kind)
                self.refused(NoWeb, lots, kind=kind, web=thing)
        for thing in ODD + ((), "a", ("standing",), ["whole"], "stand", "STABLE", "complete", "standing whole"):
            self.refused(NoKind, lots, row(2), thing)
            self.refused(NoKind, lots, kind=thing, web=row(2))
            self.refused(NoWeb, lots, (("b", "a"), ()), thing)
        for thing in ODD:
            self.refused(NoWeb, lots, thing, thing)


class IsLotOf(Asking, unittest.TestCase):

    def test_agrees_with_lots(self):
        webs = [((), ()), row(1), row(5), ring(5), ring(6), rivals(3), (tuple("abcde"), ())]
        for web in webs + all_webs(("a", "b")) + picked_webs(tuple("abcd"), 60):
            for kind in KINDS:
                told = lots(web, kind)
                for lot in all_lots(web[0]):
                    self.assertIs(is_lot_of(web, kind, lot), lot in told, (web, kind, lot))

    def test_twelve_names(self):
        web = row(12)
        for kind in KINDS:
            self.assertIs(is_lot_of(web, kind, tuple("acegik")), True)
            self.assertIs(is_lot_of(web, kind, tuple("bdfhjl")), False)
            self.assertIs(is_lot_of(web, kind, tuple("aceg")), kind == "standing")

    def test_what_is_no_lot(self):
        web = (("a", "b", "c"), ())
        things = ODD + (
            ["a", "b", "c"], ["a"], "abc", "a", ("b", "a"), ("a", "a"), ("a", "b", "c", "c"), ("c", "b", "a"), ("d",),
            ("a", "b", "c", "d"), ("a", "b", "d"), ("abc",), {"a": "b"}, {"a": 1, "b": 2, "c": 3}, (("a", "b", "c"),),
            [("a", "b", "c")], ("a", "b", ["c"]), ("a", "b", None), ("a", "b", True), web,
        )
        for kind in KINDS:
            self.assertIs(is_lot_of(web, kind, ("a", "b", "c")), True)
            for thing in things:
                before = repr(thing)
                self.assertIs(is_lot_of(web, kind, thing), False, before[:200])
                self.assertEqual(repr(thing), before)

    def test_nothing(self):
        for thing in ([], {}, "", None, False, 0, ((),)):
            for kind in KINDS:
                self.assertIs(is_lot_of(((), ()), kind, thing), False)
                self.assertIs(is_lot_of(((), ()), kind, ()), True)

    def test_what_was_told(self):
        told = lots((tuple(LETTERS[:12]), ()), "standing")
        self.assertIs(is_lot_of(row(2), "standing", told), False)
        self.assertIs(is_lot_of(row(2), "standing", tuple(told)), False)

    def test_the_same_again_and_by_name(self):
        for thing in ((), ("a",), ["a"], ("a", "c")):
            for kind in KINDS:
                self.steady(is_lot_of, web=row(3), kind=kind, thing=thing)

    def test_refused(self):
        for thing in NO_WEBS:
            self.refused(NoWeb, is_lot_of, thing, "stable", ())
            self.refused(NoWeb, is_lot_of, thing, "none", thing)
            self.refused(NoWeb, is_lot_of, thing=(), kind=thing, web=thing)
        for thing in ODD + ((), "a", ("standing",), ["whole"]):
            self.refused(NoKind, is_lot_of, row(2), thing, ("a",))
            self.refused(NoKind, is_lot_of, row(2), thing, thing)
            self.refused(NoKind, is_lot_of, thing=(), web=row(2), kind=thing)


class Names(unittest.TestCase):

    def test_as_in_the_interface(self):
        self.assertEqual(list(inspect.signature(lots).parameters), ["web", "kind"])
        self.assertEqual(list(inspect.signature(is_lot_of).parameters), ["web", "kind", "thing"])


if __name__ == "__main__":
    unittest.main()

"""Point [81], and what [2], [3] and [4] say of it."""

import inspect
import itertools
import unittest

from everalike.errors import NoKind, NoPair, NoWay, NoWeb, TooMany
from everalike.inward import inward
from everalike.outward import outward
from everalike.papers import holds
from everalike.within import within
from tests.helper import (
    KINDS, NO_KINDS, NO_LOTS, NO_WEBS, ODD, Asking, all_lots, all_webs, every_strike, inward_web, lots_beside,
    lots_of_one, near_pairs, picked_webs, ring, row, words_of,
)

ASKS = {"inward": inward, "outward": outward, "within": within}
WAYS = tuple(ASKS)
NO_WAYS = ODD + (
    (), "a", "In", "INWARD", "inward ", " within", "in", "out", "inwards", "alike", "standing", ("inward",), ["within"],
    {"outward": 1}, "inward outward",
)
BAD = (("b", "a"), ())
NAMES = ("a", "b")
LOOP, HIT = (NAMES, (("b", "b"),)), (NAMES, (("a", "b"), ("b", "b")))


def does_strike(web, lot, name):
    return any((one, name) in web[1] for one in lot)


class Holds(Asking, unittest.TestCase):

    def right(self, one, other, kind, way, thing):
        self.assertIs(holds(one, other, kind, way, thing), True, (one, other, kind, way, thing))

    def wrong(self, one, other, kind, way, thing):
        before = repr(thing)
        self.assertIs(holds(one, other, kind, way, thing), False, (one, other, kind, way, before[:200]))
        self.assertEqual(repr(thing), before)

    def test_whatever_is_told(self):
        pairs = list(itertools.product(all_webs(NAMES), repeat=2))[::3] + near_pairs(picked_webs(("a", "b", "c"), 6))
        for one, other in pairs:
            for kind in KINDS:
                for way in WAYS:
                    told = ASKS[way](one, other, kind)
                    self.right(one, other, kind, way, told)
                    self.right(other, one, kind, way, told)

    def test_whatever_is_told_of_larger_webs(self):
        webs = picked_webs(tuple("abcde"), 6) + [(tuple("abcde"), ())]
        for one, other in zip(webs, webs[1:] + webs[:1]):
            for kind in KINDS:
                self.right(one, other, kind, "inward", inward(one, other, kind))
        webs = picked_webs(tuple("abcdefghijkl"), 6)
        for one, other in zip(webs, webs[1:] + webs[:1]):
            for kind in KINDS:
                self.right(one, other, kind, "outward", outward(one, other, kind))
                self.right(one, one, kind, "outward", ("alike",))

    def test_alike(self):
        for one, other in itertools.product(all_webs(NAMES), repeat=2):
            for kind in KINDS:
                for way in WAYS:
                    want = ASKS[way](one, other, kind) == ("alike",)
                    self.assertIs(holds(one, other, kind, way, ("alike",)), want)
        for kind in KINDS:
            for way in WAYS:
                self.right(((), ()), ((), ()), kind, way, ("alike",))
                self.wrong(row(1), ring(1), kind, way, ("alike",))

    def test_each_test_and_lot_inward(self):
        # By the words: lots without a name in common, and a lot of just one of both behind them.
        lots = all_lots(("a", "b", "c", "d"))
        webs = all_webs(NAMES)
        for one, other in list(zip(webs, webs[5:])) + [(LOOP, HIT)]:
            for kind in KINDS:
                for hit, held in itertools.product(all_lots(NAMES), repeat=2):
                    apart = [] if set(hit) & set(held) else lots_beside(one, other, kind, inward_web(NAMES, hit, held))
                    for lot in lots:
                        told = holds(one, other, kind, "inward", ("parted", hit, held, lot))
                        self.assertIs(told, lot in apart, (one, other, kind, hit, held, lot))

    def test_each_name_and_lot_outward(self):
        # By the words: a lot of just one of both, or one of both that strikes the name in just one.
        webs = all_webs(NAMES)
        pairs = list(itertools.product(webs, repeat=2)) + near_pairs(picked_webs(("a", "b", "c"), 5))
        for one, other in pairs:
            for kind in KINDS:
                apart = lots_of_one(one, other, kind)
                for lot in all_lots(("a", "b", "c")):
                    self.assertIs(holds(one, other, kind, "outward", ("parted", None, lot)), lot in apart)
                    common = lot in words_of(one)[kind] and lot in words_of(other)[kind]
                    for name in ("a", "b", "c", "d"):
                        want = common and does_strike(one, lot, name) != does_strike(other, lot, name)
                        told = holds(one, other, kind, "outward", ("parted", name, lot))
                        self.assertIs(told, want, (one, other, kind, name, lot))

    def test_each_strikes_and_lot_within(self):
        # By the words: a lot of just one of both with the strikes put.
        webs = all_webs(NAMES)
        every = every_strike(NAMES)
        puts = [strikes for many in range(5) for strikes in itertools.combinations(every, many)]
        for one, other in list(zip(webs, webs[5:])) + [(LOOP, HIT)]:
            for kind in KINDS:
                for strikes in puts:
                    apart = lots_beside(one, other, kind, (NAMES, strikes))
                    for lot in all_lots(("a", "b", "c")):
                        told = holds(one, other, kind, "within", ("parted", strikes, lot))
                        self.assertIs(told, lot in apart, (one, other, kind, strikes, lot))

    def test_others_than_the_first_and_least(self):
        self.assertEqual(inward((NAMES, ()), row(2), "whole"), ("parted", (), (), ("a", "b", "c")))
        self.right((NAMES, ()), row(2), "whole", "inward", ("parted", (), (), ("a", "c")))
        self.right((NAMES, ()), row(2), "whole", "inward", ("parted", (), ("a",), ("b", "c")))
        self.right((NAMES, ()), row(2), "whole", "inward", ("parted", (), ("a",), ("c",)))
        self.assertEqual(outward((NAMES, ()), row(2), "standing"), ("parted", None, ("a", "b")))
        self.right((NAMES, ()), row(2), "standing", "outward", ("parted", None, ("b",)))
        # Also where they don't have the same lots, a lot of both may strike a name in just one.
        self.right((NAMES, ()), row(2), "standing", "outward", ("parted", "b", ("a",)))
        self.wrong((NAMES, ()), row(2), "standing", "outward", ("parted", "a", ("a",)))
        self.wrong((NAMES, ()), row(2), "standing", "outward", ("parted", "b", ("a", "b")))
        self.assertEqual(within(LOOP, HIT, "preferred"), ("parted", (("b", "a"),), ()))
        self.right(LOOP, HIT, "preferred", "within", ("parted", (("b", "a"),), ("a",)))
        self.right(LOOP, HIT, "preferred", "within", ("parted", (("b", "a"), ("b", "b")), ("a",)))

    def test_a_name_in_common(self):
        for kind in KINDS:
            for lot in all_lots(("a", "b", "c", "d")):
                self.wrong((NAMES, ()), row(2), kind, "inward", ("parted", ("a",), ("a",), lot))
                self.wrong((NAMES, ()), row(2), kind, "inward", ("parted", ("a", "b"), ("b",), lot))

    def test_strikes_of_another_form(self):
        # Each of these would part the two, were it strikes of their names in order.
        good = (("a", "a"), ("b", "a"))
        one, other = (NAMES, ()), (NAMES, (("b", "b"),))
        self.right(one, other, "standing", "within", ("parted", good, ("b",)))
        for strikes in (
            good[::-1], good + good, (good[0], good[0]), list(good), (list(good[0]), good[1]), (("a", "a"), ("b", "c")),
            (("a", "a"), ("c", "a")), (("a", "a"), ("b",)), (("a", "a"), ("b", "a", "a")), (("a", "a"), "ba"), ("a", "a"),
            (good,), None, {}, {("a", "a"): 1}, "a>a", (("a", "a"), None), ((), ()), ((),), [], (NAMES, good),
        ):
            self.wrong(one, other, "standing", "within", ("parted", strikes, ("b",)))

    def test_lots_of_another_form(self):
        one, other = (NAMES, ()), (NAMES, (("b", "b"),))
        for way, shown in (("inward", ((), ())), ("outward", (None,)), ("within", ((),))):
            for kind in KINDS:
                lot = ("a", "b", "c") if way == "inward" else ("a", "b")
                self.right(one, other, kind, way, ("parted", *shown, lot))
                for thing in NO_LOTS + (lot[::-1], lot + lot[-1:], list(lot), (lot,), lot[1:] + lot[:1]):
                    if thing not in (("a", "b", "c"), ("a", "b")):
                        self.wrong(one, other, kind, way, ("parted", *shown, thing))

    def test_hit_and_held_of_another_form(self):
        one, other = (NAMES, ()), (NAMES, (("b", "b"),))
        self.right(one, other, "standing", "inward", ("parted", ("a",), (), ("b", "c")))
        self.right(one, other, "standing", "inward", ("parted", (), ("a",), ("b", "c")))
        for thing in NO_LOTS:
            self.wrong(one, other, "standing", "inward", ("parted", thing, (), ("b", "c")))
            self.wrong(one, other, "standing", "inward", ("parted", (), thing, ("b", "c")))
            self.wrong(one, other, "standing", "inward", ("parted", thing, thing, ("b", "c")))
        self.wrong(one, other, "standing", "inward", ("parted", None, None, ("b", "c")))

    def test_names_of_another_form(self):
        self.right(LOOP, HIT, "whole", "outward", ("parted", "b", ("a",)))
        for name in NO_LOTS + ((), ("b",), ["b"], "bb", "c", "B", {"b": "b"}):
            if name is not None:
                self.wrong(LOOP, HIT, "whole", "outward", ("parted", name, ("a",)))
        # Both have this lot, so it shows nothing without a name.
        self.wrong(LOOP, HIT, "whole", "outward", ("parted", None, ("a",)))
        self.wrong(LOOP, HIT, "whole", "outward", ("parted", "a", ("a",)))
        # The lot that strikes it must be one of the kind of both.
        self.wrong(LOOP, HIT, "stable", "outward", ("parted", "b", ("a",)))

    def test_what_has_another_form(self):
        for way in WAYS:
            for kind in KINDS:
                told = ASKS[way]((NAMES, ()), row(2), kind)
                word, *shown, lot = told
                self.assertEqual(word, "parted")
                for thing in (
                    list(told), (word,), (word, lot), (word, *shown), (word, lot, *shown, lot), (*shown, lot), told[:-1],
                    told + told, told + (lot,), (word, word, *shown, lot), (word, *shown, *shown, *shown, lot), (told,),
                    (told, told), ("Parted", *shown, lot), ("alike", *shown, lot), ("alike", lot), (None, *shown, lot),
                    (word, *shown, [lot]), {word: lot}, word, [word], ("part", *shown, lot), (lot, *shown, word), (),
                ):
                    self.wrong((NAMES, ()), row(2), kind, way, thing)
                for thing in (
                    "alike", ["alike"], ("alike", None), ("alike", ()), ("alike", row(2)), ("alike", "alike"), ("Alike",),
                    ("alike ",), (("alike",),), {"alike": True}, ("parted",), ("parted", "alike"), (["alike"],), (),
                ):
                    self.wrong(row(2), row(2), kind, way, thing)

    def test_the_papers_of_another_way(self):
        self.wrong((NAMES, ()), row(2), "whole", "inward", ("parted", None, ("a",)))
        self.wrong((NAMES, ()), row(2), "whole", "inward", ("parted", (), ("a",)))
        self.wrong((NAMES, ()), row(2), "whole", "outward", ("parted", (), (), ("a", "c")))
        self.wrong((NAMES, ()), row(2), "whole", "outward", ("parted", (), ("a",)))
        self.wrong((NAMES, ()), row(2), "whole", "within", ("parted", None, ("a",)))
        self.wrong((NAMES, ()), row(2), "whole", "within", ("parted", (), (), ("a", "c")))

    def test_of_anything(self):
        for way in WAYS:
            for kind in ("standing", "stable"):
                for thing in NO_WEBS:
                    self.wrong(row(2), row(2), kind, way, thing)
                    self.wrong(row(2), ring(2), kind, way, thing)
                    self.wrong(row(2), ring(2), kind, way, ("parted", thing))
                    self.wrong(row(2), row(2), kind, way, ("parted", thing, thing))
                    self.wrong(row(2), row(2), kind, way, ("parted", thing, thing, thing))
                    self.wrong(row(2), row(2), kind, way, ("alike", thing))
                    self.wrong(row(2), row(2), kind, way, (thing,))
                    self.wrong(row(2), row(2), kind, way, (thing, (), ("b",)))

    def test_the_same_again_and_by_name(self):
        for way in WAYS:
            for one, other in ((row(2), ring(2)), (row(3), row(3))):
                for thing in (ASKS[way](one, other, "whole"), ("alike",), ["alike"], {}, ("parted", None, ())):
                    self.steady(holds, one=one, other=other, kind="whole", way=way, thing=thing)

    def test_names_as_in_the_interface(self):
        self.assertEqual(list(inspect.signature(holds).parameters), ["one", "other", "kind", "way", "thing"])


class Refused(Asking, unittest.TestCase):

    def each(self, error, one, other, kind, way):
        caught = []
        for thing in (("alike",), None, []):
            caught.append(self.refused(error, holds, one, other, kind, way, thing))
            caught.append(self.refused(error, holds, thing=thing, way=way, kind=kind, other=other, one=one))
        return caught

    def test_no_web(self):
        for thing in NO_WEBS:
            self.each(NoWeb, thing, row(2), "stable", "inward")
            self.each(NoWeb, row(2), thing, "stable", "within")
            self.each(NoWeb, row(6), thing, "none", "none")
            self.each(NoWeb, thing, thing, thing, thing)

    def test_no_pair(self):
        for one, other in ((row(2), row(3)), (row(6), row(7)), (((), ()), row(1)), ((("a",), ()), (("b",), ()))):
            for way in WAYS + ("none",):
                self.each(NoPair, one, other, "whole", way)
                self.each(NoPair, one, other, "none", way)

    def test_no_kind(self):
        for thing in NO_KINDS:
            self.each(NoKind, row(2), ring(2), thing, "inward")
            self.each(NoKind, row(6), row(6), thing, "inward")
            self.each(NoKind, row(6), row(6), thing, "none")

    def test_no_way(self):
        for thing in NO_WAYS:
            self.each(NoWay, row(2), ring(2), "whole", thing)
            self.each(NoWay, row(6), row(6), "whole", thing)
            self.each(NoWay, row(12), row(12), "stable", thing)

    def test_too_many(self):
        for way, many, most in (("inward", 6, 5), ("inward", 12, 5), ("within", 4, 3), ("within", 12, 3)):
            for kind in KINDS:
                for error in self.each(TooMany, row(many), row(many), kind, way):
                    self.assertEqual((error.many, error.most), (many, most))

    def test_as_many_as_are_taken(self):
        for way, many in (("inward", 5), ("outward", 12), ("within", 3)):
            for kind in KINDS:
                self.assertIs(holds(row(many), row(many), kind, way, ("alike",)), True)
                self.assertIs(holds(row(many), row(many), kind, way, None), False)


if __name__ == "__main__":
    unittest.main()

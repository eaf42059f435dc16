"""Point [100], and what [2], [3] and [4] say of it."""

import inspect
import itertools
import unittest

from everalike.alike import are_alike
from everalike.errors import NoDeed, NoKind, NoName, NoPair, NoSide, NoWeb
from everalike.nearest import changed, made_alike
from everalike.pairs import Pair
from tests.helper import (
    KINDS, NO_KINDS, NO_WEBS, ODD, Asking, all_webs, every_strike, kernel_by_the_words, picked_webs, ring, row,
    turned_by_hand,
)

NAMES = ("a", "b")
BARE = (NAMES, ())
BAD = (("b", "a"), ())
NO_SIDES = [thing for thing in ODD if repr(thing) not in ("0", "1", "2")] + [
    3, -1, 4, "1", "one", "", (), (1,), [0], {1: 2}, "0", "first", True, False, None,
]
NO_NAMES = [thing for thing in ODD] + ["c", "ab", "", "A", ("a",), ["b"], {"a": "b"}, (), row(2), 1, None]


def seen_of(pair):
    """All that is told of a Pair."""
    return (pair.webs(), pair.owing(), pair.alike(), pair.story(), len(pair), repr(pair))


def undone(pair):
    """The webs of a Pair's twin behind each undo, to the first."""
    other = pair.twin()
    told = [other.webs()]
    while len(other):
        other.undo()
        told.append(other.webs())
    return told


class Turns(Asking, unittest.TestCase):

    def test_a_new_pair(self):
        for one, other in ((row(3), ring(3)), (row(3), row(3)), (((), ()), ((), ())), (row(12), ring(12))):
            for kind in KINDS:
                pair = Pair(one, other, kind)
                self.assertEqual(pair.webs(), (one, other))
                self.assertIs(type(pair.webs()), tuple)
                self.assertEqual(len(pair), 0)
                self.assertEqual(pair.story(), [one == other])

    def test_the_first_web(self):
        pair = Pair(BARE, BARE, "stable")
        self.assertIsNone(pair.turn(1, "a", "b"))
        self.assertEqual(pair.webs(), (row(2), BARE))
        self.assertIsNone(pair.turn(1, "a", "b"))
        self.assertEqual(pair.webs(), (BARE, BARE))
        self.assertEqual(len(pair), 2)

    def test_the_second_web(self):
        pair = Pair(ring(2), ring(2), "stable")
        pair.turn(2, "b", "a")
        self.assertEqual(pair.webs(), (ring(2), row(2)))
        pair.turn(2, "a", "a")
        self.assertEqual(pair.webs(), (ring(2), (NAMES, (("a", "a"), ("a", "b")))))
        pair.turn(2, "b", "a")
        self.assertEqual(pair.webs(), (ring(2), (NAMES, (("a", "a"), ("a", "b"), ("b", "a")))))

    def test_both_webs(self):
        # In each of both it is taken where it is there, put where it isn't.
        pair = Pair(row(2), BARE, "stable")
        pair.turn(0, "a", "b")
        self.assertEqual(pair.webs(), (BARE, row(2)))
        pair.turn(0, "b", "b")
        self.assertEqual(pair.webs(), ((NAMES, (("b", "b"),)), (NAMES, (("a", "b"), ("b", "b")))))
        self.assertEqual(len(pair), 2)

    def test_each_turn(self):
        for one, other in list(itertools.product(all_webs(NAMES), repeat=2))[::5]:
            for side in (0, 1, 2):
                for strike in every_strike(NAMES):
                    pair = Pair(one, other, "whole")
                    pair.turn(side, *strike)
                    first = turned_by_hand(one, [strike]) if side in (0, 1) else one
                    second = turned_by_hand(other, [strike]) if side in (0, 2) else other
                    self.assertEqual(pair.webs(), (first, second))
                    self.assertEqual(len(pair), 1)
                    self.assertIsNone(pair.undo())
                    self.assertEqual(pair.webs(), (one, other))
                    self.assertEqual(len(pair), 0)

    def test_undo_of_several(self):
        pair = Pair(row(3), ring(3), "grounded")
        steps = [pair.webs()]
        turns = ((1, "a", "a"), (0, "c", "a"), (2, "b", "c"), (2, "b", "c"), (0, "a", "b"), (1, "c", "c"))
        for turn in turns:
            pair.turn(*turn)
            steps.append(pair.webs())
        self.assertEqual(len(pair), 6)
        for at in range(5, -1, -1):
            self.assertIsNone(pair.undo())
            self.assertEqual(pair.webs(), steps[at])
            self.assertEqual(len(pair), at)
        self.refused(NoDeed, pair.undo)
        self.assertEqual(pair.webs(), steps[0])
        self.assertEqual(len(pair), 0)

    def test_turns_behind_undos(self):
        pair = Pair(BARE, BARE, "standing")
        pair.turn(1, "a", "b")
        pair.turn(2, "a", "a")
        pair.undo()
        pair.turn(0, "b", "b")
        self.assertEqual(pair.webs(), ((NAMES, (("a", "b"), ("b", "b"))), (NAMES, (("b", "b"),))))
        pair.undo()
        self.assertEqual(pair.webs(), (row(2), BARE))
        pair.undo()
        self.assertEqual(pair.webs(), (BARE, BARE))
        self.refused(NoDeed, pair.undo)
        pair.turn(1, "a", "b")
        self.assertEqual(len(pair), 1)

    def test_by_name_in_another_order(self):
        pair = Pair(kind="whole", other=BARE, one=row(2))
        self.assertEqual(pair.webs(), (row(2), BARE))
        pair.turn(other="a", side=2, one="b")
        self.assertEqual(pair.webs(), (row(2), (NAMES, (("b", "a"),))))

    def test_nothing_handed_in_is_changed(self):
        one, other = row(3), ring(3)
        pair = Pair(one, other, "whole")
        pair.turn(0, "a", "b")
        pair.turn(1, "c", "c")
        self.assertEqual((one, other), (row(3), ring(3)))


class Told(Asking, unittest.TestCase):

    def walked(self, kind, seed):
        """A Pair behind some turns and undos, the same ones each time."""
        names = ("a", "b", "c")
        one, other = picked_webs(names, 2, seed)
        pair = Pair(one, other, kind)
        stack = [pair.webs()]
        for step in range(25):
            seed = (seed * 1103515245 + 12345) & 0x7FFFFFFF
            if (seed >> 8) % 4 == 0 and len(stack) > 1:
                pair.undo()
                stack.pop()
            else:
                side, strike = (seed >> 10) % 3, every_strike(names)[(seed >> 16) % 9]
                pair.turn(side, *strike)
                first, second = stack[-1]
                stack.append((
                    turned_by_hand(first, [strike]) if side != 2 else first,
                    turned_by_hand(second, [strike]) if side != 1 else second,
                ))
            yield pair, stack

    def test_behind_turns_and_undos(self):
        for kind in KINDS:
            for seed in (1, 5, 9):
                for pair, stack in self.walked(kind, seed):
                    first, second = stack[-1]
                    self.assertEqual(pair.webs(), (first, second))
                    self.assertEqual(len(pair), len(stack) - 1)
                    self.assertIs(pair.alike(), kernel_by_the_words(first, kind) == kernel_by_the_words(second, kind))
                    want = [kernel_by_the_words(one, kind) == kernel_by_the_words(other, kind) for one, other in stack]
                    self.assertEqual(pair.story(), want)
                    self.assertEqual(pair.owing(), made_alike(first, second, kind))
                    self.assertIs(are_alike(changed(first, pair.owing()), second, kind), True)

    def test_alike_and_owing(self):
        loop = (NAMES, (("a", "a"),))
        pair = Pair((NAMES, (("a", "a"), ("a", "b"))), loop, "stable")
        self.assertIs(pair.alike(), True)
        self.assertEqual(pair.owing(), ())
        pair.turn(0, "a", "a")
        self.assertIs(pair.alike(), False)
        self.assertEqual(pair.owing(), (("a", "b"),))
        pair.turn(1, "a", "b")
        self.assertIs(pair.alike(), True)
        self.assertEqual(pair.story(), [True, False, True])
        pair.undo()
        self.assertEqual(pair.story(), [True, False])
        self.assertIs(type(pair.owing()), tuple)

    def test_each_list_is_the_askers_own(self):
        pair = Pair(row(2), BARE, "whole")
        pair.turn(1, "a", "b")
        self.assertEqual(self.own(pair.story), [False, True])
        pair.turn(2, "a", "a")
        self.assertEqual(self.own(pair.story), [False, True, False])

    def test_asking_changes_nothing(self):
        pair = Pair(row(2), BARE, "whole")
        pair.turn(0, "a", "b")
        before = seen_of(pair)
        pair.twin()
        self.assertEqual(pair == pair, True)
        self.assertEqual(seen_of(pair), before)
        self.assertEqual(seen_of(pair), before)

    def test_repr(self):
        pair = Pair(row(3), ring(3), "whole")
        self.assertEqual(repr(pair), "Pair(3 names, 0 turns)")
        pair.turn(1, "a", "b")
        self.assertEqual(repr(pair), "Pair(3 names, 1 turns)")
        pair.turn(0, "a", "b")
        self.assertEqual(repr(pair), "Pair(3 names, 2 turns)")
        pair.undo()
        self.assertEqual(repr(pair), "Pair(3 names, 1 turns)")
        self.assertEqual(repr(Pair(((), ()), ((), ()), "whole")), "Pair(0 names, 0 turns)")
        self.assertEqual(repr(Pair(row(1), ring(1), "whole")), "Pair(1 names, 0 turns)")
        self.assertEqual(repr(Pair(row(12), ring(12), "whole")), "Pair(12 names, 0 turns)")

    def test_len(self):
        pair = Pair(row(1), ring(1), "whole")
        for many in range(1, 41):
            pair.turn(many % 3, "a", "a")
            self.assertEqual(len(pair), many)
        pair.undo()
        self.assertEqual(len(pair), 39)


class Equal(unittest.TestCase):

    def same(self, one, other):
        self.assertIs(one == other, True)
        self.assertIs(other == one, True)
        self.assertIs(one != other, False)

    def unlike(self, one, other):
        self.assertIs(one == other, False)
        self.assertIs(other == one, False)
        self.assertIs(one != other, True)

    def test_of_the_same_webs_and_kind(self):
        for kind in KINDS:
            self.same(Pair(row(3), ring(3), kind), Pair(row(3), ring(3), kind))
            self.unlike(Pair(row(3), ring(3), kind), Pair(ring(3), row(3), kind))
            self.unlike(Pair(row(3), ring(3), kind), Pair(row(3), row(3), kind))
            self.unlike(Pair(row(3), row(3), kind), Pair(ring(3), row(3), kind))
            self.unlike(Pair(((), ()), ((), ()), kind), Pair(row(1), row(1), kind))

    def test_of_unlike_kinds(self):
        for one, other in itertools.combinations(KINDS, 2):
            self.unlike(Pair(row(2), row(2), one), Pair(row(2), row(2), other))

    def test_of_unlike_turns(self):
        one, other = Pair(row(2), BARE, "whole"), Pair(BARE, BARE, "whole")
        self.unlike(one, other)
        other.turn(1, "a", "b")
        self.same(one, other)
        other.turn(0, "a", "a")
        self.unlike(one, other)
        one.turn(2, "a", "a")
        one.turn(1, "a", "a")
        self.same(one, other)
        one.undo()
        self.unlike(one, other)

    def test_to_nothing_else(self):
        pair = Pair(row(2), BARE, "whole")
        for thing in ODD + (pair.webs(), (row(2), BARE, "whole"), [row(2), BARE], repr(pair), "whole", row(2), ()):
            self.unlike(pair, thing)


class Twin(unittest.TestCase):

    def test_as_it_is(self):
        pair = Pair(row(3), ring(3), "preferred")
        for turn in ((1, "a", "a"), (0, "c", "a"), (2, "b", "c")):
            pair.turn(*turn)
        twin = pair.twin()
        self.assertIs(type(twin), Pair)
        self.assertIsNot(twin, pair)
        self.assertTrue(twin == pair)
        self.assertEqual(seen_of(twin), seen_of(pair))
        self.assertEqual(undone(twin), undone(pair))
        self.assertEqual(len(undone(twin)), 4)

    def test_each_goes_its_own_way(self):
        pair = Pair(row(3), ring(3), "preferred")
        pair.turn(1, "a", "a")
        twin = pair.twin()
        before = seen_of(pair)
        twin.turn(0, "b", "b")
        twin.turn(2, "c", "a")
        self.assertEqual(seen_of(pair), before)
        self.assertEqual(len(twin), 3)
        for step in range(3):
            twin.undo()
        self.assertEqual(seen_of(pair), before)
        before = seen_of(twin)
        pair.turn(1, "c", "c")
        pair.undo()
        pair.undo()
        self.assertEqual(seen_of(twin), before)
        self.assertEqual(len(pair), 0)

    def test_of_a_new_pair_and_of_a_twin(self):
        pair = Pair(((), ()), ((), ()), "stable")
        self.assertTrue(pair.twin() == pair)
        self.assertEqual(len(pair.twin()), 0)
        other = Pair(row(2), BARE, "stable")
        other.turn(1, "b", "b")
        twin = other.twin().twin()
        other.undo()
        self.assertEqual(len(twin), 1)
        twin.undo()
        self.assertTrue(twin == other)


class Refused(Asking, unittest.TestCase):

    def test_a_pair(self):
        for thing in NO_WEBS:
            self.refused(NoWeb, Pair, thing, row(2), "stable")
            self.refused(NoWeb, Pair, row(2), thing, "stable")
            self.refused(NoWeb, Pair, row(2), thing, "none")
            self.refused(NoWeb, Pair, kind=thing, other=thing, one=thing)
        for thing in NO_KINDS:
            self.refused(NoKind, Pair, row(2), ring(2), thing)
            self.refused(NoKind, Pair, kind=thing, other=row(12), one=row(12))
            self.refused(NoPair, Pair, row(2), row(3), thing)
        for kind in KINDS:
            self.refused(NoPair, Pair, row(2), row(3), kind)
            self.refused(NoPair, Pair, ((), ()), row(1), kind)
            self.refused(NoPair, Pair, (("a",), ()), (("b",), ()), kind)

    def turn_refused(self, error, *parts):
        """A refused turn changes nothing, of a new Pair or of one with turns that stand."""
        for many in (0, 2):
            pair = Pair(row(2), ring(2), "whole")
            for step in range(many):
                pair.turn(step, "a", "b")
            before, steps = seen_of(pair), undone(pair)
            self.refused(error, pair.turn, *parts)
            self.refused(error, pair.turn, **dict(zip(("other", "one", "side"), parts[::-1])))
            self.assertEqual(seen_of(pair), before)
            self.assertEqual(undone(pair), steps)

    def test_no_side(self):
        for thing in NO_SIDES:
            self.turn_refused(NoSide, thing, "a", "b")
            self.turn_refused(NoSide, thing, "c", None)
            self.turn_refused(NoSide, thing, thing, thing)

    def test_no_name(self):
        for thing in NO_NAMES:
            for side in (0, 1, 2):
                self.turn_refused(NoName, side, thing, "b")
                self.turn_refused(NoName, side, "a", thing)
            self.turn_refused(NoName, 1, thing, thing)
        self.refused(NoName, Pair(((), ()), ((), ()), "whole").turn, 0, "a", "a")

    def test_no_deed(self):
        pair = Pair(row(2), ring(2), "whole")
        before = seen_of(pair)
        self.refused(NoDeed, pair.undo)
        self.assertEqual(seen_of(pair), before)
        pair.turn(1, "a", "b")
        pair.undo()
        self.refused(NoDeed, pair.undo)
        self.assertEqual(seen_of(pair), before)

    def test_a_refused_turn_can_not_be_undone(self):
        pair = Pair(row(2), ring(2), "whole")
        self.refused(NoName, pair.turn, 0, "a", "z")
        self.refused(NoDeed, pair.undo)


class Names(unittest.TestCase):

    def test_names_as_in_the_interface(self):
        self.assertEqual(list(inspect.signature(Pair).parameters), ["one", "other", "kind"])
        self.assertEqual(list(inspect.signature(Pair.turn).parameters)[1:], ["side", "one", "other"])
        for name in ("undo", "webs", "owing", "alike", "story", "twin"):
            self.assertEqual(len(inspect.signature(getattr(Pair, name)).parameters), 1)

    def test_each_method_stands_in_the_class(self):
        for name in ("turn", "undo", "webs", "owing", "alike", "story", "twin", "__len__", "__eq__", "__repr__"):
            self.assertIn(name, vars(Pair))


if __name__ == "__main__":
    unittest.main()

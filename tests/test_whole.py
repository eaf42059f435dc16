"""The whole interface, and what [3], [4] and [5] say over the whole program."""

import copy
import importlib
import inspect
import itertools
import unittest

from everalike import errors
from everalike.alike import are_alike, kinds_alike, parting, parting_holds
from everalike.enforcing import enforced
from everalike.inward import inward, test_web
from everalike.joint import are_joint_right, is_joint, joint_marks, plain_of
from everalike.kernels import fullest, how_many, kernel
from everalike.kinds import is_lot_of, lots
from everalike.nearest import changed, made_alike
from everalike.outward import outward
from everalike.pairs import Pair
from everalike.papers import holds
from everalike.texts import read_web, web_text
from everalike.webs import is_web, strikers, struck, together
from everalike.within import within
from tests.helper import KINDS, Asking, all_webs, picked_webs, ring, row

ERRORS = (
    "NoWeb", "NoLot", "NoName", "NoKind", "NoPair", "NoChanges", "NoCount", "NoShut", "NoWay", "NoJoint", "NoSide",
    "NoDeed", "TooMany", "NoText",
)

# Each function of the interface, what its arguments are called, and some that it takes.
ASKS = (
    ("webs", is_web, {"thing": [row(3), [1, [2]]]}),
    ("webs", strikers, {"web": row(3), "name": "b"}),
    ("webs", struck, {"web": row(3), "name": "b"}),
    ("webs", together, {"one": row(3), "other": ring(2)}),
    ("kinds", is_lot_of, {"web": row(3), "kind": "whole", "thing": ["a", ["c"]]}),
    ("kinds", lots, {"web": row(3), "kind": "standing"}),
    ("kernels", kernel, {"web": ring(2), "kind": "whole"}),
    ("kernels", fullest, {"web": ring(2), "kind": "whole"}),
    ("kernels", how_many, {"web": ring(2), "kind": "whole"}),
    ("alike", are_alike, {"one": row(2), "other": ring(2), "kind": "stable"}),
    ("alike", kinds_alike, {"one": row(2), "other": ring(2)}),
    ("alike", parting, {"one": row(2), "other": row(2), "kind": "stable"}),
    ("alike", parting_holds, {"one": row(2), "other": ring(2), "kind": "stable", "thing": ["alike", [row(2)]]}),
    ("nearest", changed, {"web": row(2), "changes": (("a", "a"),)}),
    ("nearest", made_alike, {"one": row(2), "other": ring(2), "kind": "stable"}),
    ("inward", test_web, {"one": row(2), "other": ring(2), "hit": ("a",), "held": ("b",)}),
    ("inward", inward, {"one": row(2), "other": ring(2), "kind": "stable"}),
    ("outward", outward, {"one": row(2), "other": ring(2), "kind": "stable"}),
    ("within", within, {"one": row(2), "other": ring(2), "kind": "stable"}),
    ("papers", holds, {"one": row(2), "other": ring(2), "kind": "stable", "way": "within", "thing": ["alike", {1: [2]}]}),
    ("joint", is_joint, {"thing": [["a"], {"b": ["c"]}]}),
    ("joint", are_joint_right, {"joint": (("a",), ()), "thing": ["in", ["in"]]}),
    ("joint", joint_marks, {"joint": (("a", "b"), ((("a",), "b"), (("b",), "a")))}),
    ("joint", plain_of, {"joint": (("a", "b"), ((("a", "b"), "b"),))}),
    ("texts", web_text, {"web": row(3)}),
    ("texts", read_web, {"text": "a b : a>b"}),
)

BAD, PAIR, OTHER, MANY, OLD = (("b", "a"), ()), row(2), row(3), row(6), ("b", "a")

# What is refused where several refusals are due: the first in the interface's order.
FIRST_DUE = (
    ("NoWeb", strikers, BAD, "z"), ("NoName", strikers, PAIR, "z"), ("NoWeb", struck, BAD, "z"), ("NoName", struck, PAIR, 1),
    ("NoWeb", together, BAD, row(12)), ("NoWeb", together, row(12), BAD), ("TooMany", together, row(12), (("z",), ())),
    ("NoWeb", lots, BAD, "none"), ("NoKind", lots, PAIR, "none"), ("NoWeb", is_lot_of, BAD, "none", None),
    ("NoKind", is_lot_of, PAIR, "none", None), ("NoWeb", kernel, BAD, "none"), ("NoKind", kernel, PAIR, "none"),
    ("NoWeb", fullest, BAD, "none"), ("NoKind", fullest, PAIR, "none"), ("NoWeb", how_many, BAD, "none"),
    ("NoKind", how_many, PAIR, "none"), ("NoWeb", are_alike, PAIR, BAD, "none"), ("NoKind", are_alike, PAIR, OTHER, "none"),
    ("NoWeb", parting, row(12), BAD, "none"), ("NoKind", parting, row(12), PAIR, "none"),
    ("TooMany", parting, row(12), PAIR, "whole"), ("NoWeb", parting_holds, row(12), BAD, "none", None),
    ("NoKind", parting_holds, row(12), PAIR, "none", None), ("TooMany", parting_holds, row(12), PAIR, "whole", None),
    ("NoWeb", changed, BAD, None), ("NoChanges", changed, PAIR, None), ("NoWeb", made_alike, PAIR, BAD, "none"),
    ("NoPair", made_alike, PAIR, OTHER, "none"), ("NoKind", made_alike, PAIR, PAIR, "none"),
    ("NoWeb", enforced, BAD, OLD, "none"), ("TooMany", enforced, MANY, OLD, "none"), ("NoLot", enforced, PAIR, OLD, "none"),
    ("NoKind", enforced, PAIR, (), "grounded"), ("NoWeb", test_web, PAIR, BAD, OLD, OLD),
    ("NoPair", test_web, PAIR, OTHER, OLD, OLD), ("NoLot", test_web, PAIR, PAIR, OLD, ()),
    ("NoWeb", inward, MANY, BAD, "none"), ("NoPair", inward, MANY, PAIR, "none"), ("NoKind", inward, MANY, MANY, "none"),
    ("TooMany", inward, MANY, MANY, "whole"), ("NoWeb", outward, PAIR, BAD, "none"), ("NoPair", outward, PAIR, OTHER, "none"),
    ("NoKind", outward, MANY, MANY, "none"), ("NoWeb", within, MANY, BAD, "none"), ("NoPair", within, MANY, PAIR, "none"),
    ("NoKind", within, MANY, MANY, "none"), ("TooMany", within, MANY, MANY, "whole"),
    ("NoWeb", holds, MANY, BAD, "none", "none", None), ("NoPair", holds, MANY, PAIR, "none", "none", None),
    ("NoKind", holds, MANY, MANY, "none", "none", None), ("NoWay", holds, MANY, MANY, "whole", "none", None),
    ("TooMany", holds, MANY, MANY, "whole", "inward", None), ("NoJoint", are_joint_right, BAD, None),
    ("NoJoint", joint_marks, BAD), ("NoJoint", plain_of, BAD), ("NoWeb", Pair, PAIR, BAD, "none"),
    ("NoPair", Pair, PAIR, OTHER, "none"), ("NoKind", Pair, PAIR, PAIR, "none"), ("NoWeb", web_text, BAD),
    ("NoText", read_web, BAD), ("NoSide", Pair(PAIR, PAIR, "whole").turn, True, "z", "z"),
    ("NoName", Pair(PAIR, PAIR, "whole").turn, 1, "z", "a"), ("NoName", Pair(PAIR, PAIR, "whole").turn, 1, "a", "z"),
    ("NoDeed", Pair(PAIR, PAIR, "whole").undo),
)


class Interface(Asking, unittest.TestCase):

    def test_each_stands_in_its_module(self):
        for module, ask, named in ASKS:
            self.assertIs(getattr(importlib.import_module("everalike." + module), ask.__name__), ask)
            self.assertEqual(list(inspect.signature(ask).parameters), list(named))
        self.assertIs(importlib.import_module("everalike.enforcing").enforced, enforced)
        self.assertIs(importlib.import_module("everalike.pairs").Pair, Pair)

    def test_by_name_in_each_order(self):
        for module, ask, named in ASKS:
            before = copy.deepcopy(named)
            told = ask(*named.values())
            for some in itertools.permutations(named.items()):
                other = ask(**dict(some))
                if ask is not plain_of:
                    self.assertEqual(repr(other), repr(told), ask)
            self.assertEqual(repr(named), repr(before), ask)

    def test_by_place_and_by_name_at_once(self):
        for module, ask, named in ASKS:
            for many in range(len(named) + 1):
                ahead, behind = list(named.values())[:many], dict(list(named.items())[many:])
                if ask is not plain_of:
                    self.assertEqual(ask(*ahead, **behind), ask(**named), ask)

    def test_enforced_by_name(self):
        told = enforced(row(3), ("b",), "stable", strict=True, most=3)
        self.assertEqual(enforced(most=3, strict=True, kind="stable", lot=("b",), web=row(3)), told)
        self.assertEqual(enforced(row(3), ("b",), "stable"), told)
        with self.assertRaises(TypeError):
            enforced(row(3), ("b",), "stable", True, 3)

    def test_each_told_list_is_the_askers_own(self):
        found = 0
        for module, ask, named in ASKS:
            if isinstance(ask(**named), list):
                self.own(ask, *named.values())
                found += 1
        self.assertEqual(found, 4)

    def test_truths_are_truths(self):
        for ask in (is_web, is_lot_of, are_alike, parting_holds, holds, is_joint, are_joint_right):
            named = [named for module, other, named in ASKS if other is ask][0]
            self.assertIs(type(ask(**named)), bool, ask)


class Refusals(Asking, unittest.TestCase):

    def test_each_class_straight_under_web_error(self):
        known = {name: thing for name, thing in vars(errors).items() if inspect.isclass(thing)}
        self.assertEqual(set(known), {*ERRORS, "WebError"})
        for name in ERRORS:
            self.assertEqual(known[name].__bases__, (errors.WebError,))
            self.assertEqual(known[name].__subclasses__(), [])
        self.assertEqual(errors.WebError.__bases__, (ValueError,))

    def test_the_first_that_is_due(self):
        for name, ask, *parts in FIRST_DUE:
            with self.subTest(name=name, ask=ask):
                self.refused(getattr(errors, name), ask, *parts)

    def test_the_first_that_is_due_of_enforced(self):
        self.refused(errors.NoKind, enforced, PAIR, (), "none", strict=1, most=5)
        self.refused(errors.NoShut, enforced, PAIR, (), "whole", strict=1, most=5)
        self.refused(errors.NoCount, enforced, PAIR, (), "whole", strict=True, most=5)

    def test_each_is_refused_somewhere(self):
        self.assertEqual({name for name, *rest in FIRST_DUE} | {"NoShut", "NoCount"}, set(ERRORS))


class Promise(unittest.TestCase):

    def test_what_is_alike_is_alike_in_each_way(self):
        for one, other in itertools.product(all_webs(("a", "b")), repeat=2):
            for kind in KINDS:
                if are_alike(one, other, kind):
                    for ask in (inward, outward, within):
                        self.assertEqual(ask(one, other, kind), ("alike",))

    def test_what_is_told_may_be_handed_in_again(self):
        for one, other in zip(picked_webs(("a", "b", "c"), 20), picked_webs(("a", "b", "c"), 20, seed=8)):
            for kind in KINDS:
                self.assertIs(parting_holds(one, other, kind, parting(one, other, kind)), True)
                self.assertIs(are_alike(changed(one, made_alike(one, other, kind)), other, kind), True)
                for way, ask in (("inward", inward), ("outward", outward), ("within", within)):
                    self.assertIs(holds(one, other, kind, way, ask(one, other, kind)), True)
            self.assertEqual(read_web(web_text(one)), one)


if __name__ == "__main__":
    unittest.main()

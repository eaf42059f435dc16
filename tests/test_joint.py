"""Points [90] and [91], and what [2], [3] and [4] say of them."""

import inspect
import itertools
import unittest

from everalike.errors import NoJoint
from everalike.joint import are_joint_right, is_joint, joint_marks, plain_of
from everalike.kinds import lots
from everalike.webs import is_web
from tests.helper import ODD, Asking, all_lots, words_of

NO_JOINTS = ODD + (
    (), "a", ("a", "b"), ("a",), (("a",),), (("a",), None), (None, ()), (("a",), (), ()), ["a", ()],
    # What can't be the names.
    (tuple("abcde"), ()), (("b", "a"), ()), (("a", "a"), ()), (("A",), ()), (("abcdefg",), ()), (("",), ()), (["a"], ()),
    ("ab", ()), ((1,), ()), ((None,), ()), ((("a",),), ()), ({"a": 1}, ()),
    # What can't be the strikes.
    (("a",), []), (("a",), "a"), (("a",), {}), (("a",), [(("a",), "a")]), (("a",), ([("a",), "a"],)),
    (("a", "b"), ((("a",), "b"), (("a",), "a"))), (("a", "b"), ((("b",), "a"), (("a",), "a"))),
    (("a", "b"), ((("a",), "a"), (("a",), "a"))), (("a",), ((("a",), "a"), None)),
    (("a", "b", "c"), tuple((lot, "a") for lot in all_lots(("a", "b", "c"))[1:6])),
    # What can't be one strike.
    (("a",), (((), "a"),)), (("a", "b"), ((("b", "a"), "a"),)), (("a", "b"), ((("a", "a"), "a"),)),
    (("a",), ((("b",), "a"),)), (("a",), ((("a",), "b"),)), (("a", "b"), ((("a", "c"), "a"),)), (("a",), (("a", "a"),)),
    (("a",), ((["a"], "a"),)), (("a",), ((("a",), ["a"]),)), (("a",), ((("a",), ("a",)),)), (("a",), ((("a",),),)),
    (("a",), ((("a",), "a", "a"),)), (("a",), (("a", ("a",)),)), (("a",), (((1,), "a"),)), (("a",), ((("a",), 1),)),
    (("a",), ((("a",), None),)), (("a",), ((None, "a"),)), (("a",), ((("a", 1), "a"),)), (("a",), (((), ()),)),
    ((), (((), "a"),)), ((), ((("a",), "a"),)), (("a",), (({"a": 1}, "a"),)),
)


def all_joint_strikes(names):
    """Every strike of one and more of the names together at one of them, rising."""
    return list(itertools.product(all_lots(names)[1:], names))


def all_joints(names):
    """Every joint web of the names."""
    every = all_joint_strikes(names)
    return [(names, strikes) for many in range(5) for strikes in itertools.combinations(every, many)]


def picked_joints(names, many):
    """Some joint webs of the names with four strikes, the same ones each time."""
    every = all_joint_strikes(names)
    told = []
    seed = 1
    while len(told) < many:
        chosen = set()
        while len(chosen) < 4:
            seed = (seed * 1103515245 + 12345) & 0x7FFFFFFF
            chosen.add(every[(seed >> 8) % len(every)])
        told.append((names, tuple(sorted(chosen))))
    return told


def right_by_the_words(joint, marks):
    """Whether marks are right, straight from the three sentences of the point."""
    names, strikes = joint
    marked = dict(zip(names, marks))
    for name in names:
        those = [lot for lot, other in strikes if other == name]
        each_has_out = all("out" in [marked[one] for one in lot] for lot in those)
        one_all_in = any({marked[one] for one in lot} == {"in"} for lot in those)
        if marked[name] == "in" and not each_has_out:
            return False
        if marked[name] == "out" and not one_all_in:
            return False
        if marked[name] == "open" and (one_all_in or each_has_out):
            return False
    return True


def every_marks(names):
    return sorted(itertools.product(("in", "out", "open"), repeat=len(names)))


TWOS = [joint for names in ((), ("a",), ("a", "b"), ("b", "word")) for joint in all_joints(names)]
LARGER = (
    picked_joints(("a", "b", "c"), 25) + picked_joints(tuple("abcd"), 25) + picked_joints(("aa", "e", "f", "zz"), 5)
    + [
        # Large lots, lots that hold the struck name itself, and each name struck by all together.
        (tuple("abcd"), tuple((tuple("abcd"), name) for name in "abcd")),
        (tuple("wxyz"), tuple((tuple("wxyz"), name) for name in "wxyz")),
        (tuple("abcd"), tuple(sorted((tuple(other for other in "abcd" if other != name), name) for name in "abcd"))),
        (tuple("abcd"), ((("a", "b"), "a"), (("a", "b"), "b"), (("c", "d"), "c"), (("c", "d"), "d"))),
        (tuple("abcd"), ((("a", "b"), "c"), (("b", "c"), "d"), (("c", "d"), "a"), (("d",), "b"))),
        (tuple("efgh"), ((("e",), "f"), (("f",), "e"), (("f", "g"), "h"), (("g", "h"), "g"))),
        (tuple("abcd"), ()), (("a", "b", "c"), ()), (("e", "g", "h"), ((("e", "g"), "h"),)),
        (tuple("abcd"), tuple((lot, "a") for lot in all_lots(tuple("abcd"))[1:5])),
    ]
)


class IsJoint(Asking, unittest.TestCase):

    def test_joint_webs(self):
        for joint in TWOS + LARGER + [
            ((), ()), (("a",), ()), (("a",), ((("a",), "a"),)), (("abcdef", "zzzzzz"), ((("abcdef", "zzzzzz"), "zzzzzz"),)),
        ]:
            self.assertIs(is_joint(joint), True, joint)

    def test_of_anything(self):
        for thing in NO_JOINTS:
            before = repr(thing)
            self.assertIs(is_joint(thing), False, before[:200])
            self.assertEqual(repr(thing), before)

    def test_four_names_and_four_strikes_at_most(self):
        every = all_joint_strikes(("a", "b"))
        for many in range(len(every) + 1):
            self.assertIs(is_joint((("a", "b"), tuple(every[:many]))), many <= 4)
        for many in range(7):
            self.assertIs(is_joint((tuple("abcdefg")[:many], ())), many <= 4)

    def test_strikes_rise_as_tuples_compare(self):
        for some in itertools.permutations(all_joint_strikes(("a", "b")), 3):
            self.assertIs(is_joint((("a", "b"), some)), some[0] < some[1] < some[2])

    def test_the_same_again_and_by_name(self):
        for thing in NO_JOINTS + tuple(LARGER):
            self.steady(is_joint, thing=thing)


class AreJointRight(Asking, unittest.TestCase):

    def test_each_row_of_marks(self):
        for joint in TWOS + LARGER:
            for marks in every_marks(joint[0]):
                self.assertIs(are_joint_right(joint, marks), right_by_the_words(joint, marks), (joint, marks))

    def test_by_hand(self):
        joint = (("a", "b", "c"), ((("a", "b"), "c"),))
        self.assertIs(are_joint_right(joint, ("in", "in", "out")), True)
        self.assertIs(are_joint_right(joint, ("in", "in", "open")), False)
        self.assertIs(are_joint_right(joint, ("in", "in", "in")), False)
        self.assertIs(are_joint_right(joint, ("out", "in", "in")), False)
        loop = (("a",), ((("a",), "a"),))
        self.assertEqual([are_joint_right(loop, (mark,)) for mark in ("in", "out", "open")], [False, False, True])
        self.assertIs(are_joint_right(((), ()), ()), True)

    def test_what_is_no_marks(self):
        joint = (("a", "b"), ((("a",), "b"),))
        self.assertIs(are_joint_right(joint, ("in", "out")), True)
        for thing in ODD + (
            (), ("in",), ("in", "out", "in"), ("in", "out", "open"), ["in", "out"], "inout", "in out", ("in", "OUT"),
            ("in", "out "), ("in", None), ("in", True), ("in", ["out"]), ("in", ("out",)), ("In", "out"), {"in": "out"},
            {"a": "in", "b": "out"}, (("a", "in"), ("b", "out")), (("in", "out"),), [("in", "out")], ("yes", "no"),
            ("in", {}), ("in", 1), ("undec", "out"), (("in",), ("out",)), joint,
        ):
            before = repr(thing)
            self.assertIs(are_joint_right(joint, thing), False, before[:200])
            self.assertEqual(repr(thing), before)
        for thing in ODD:
            self.assertIs(are_joint_right(((), ()), thing), False)
        self.assertIs(are_joint_right(((), ()), ("in",)), False)
        self.assertIs(are_joint_right(((), ()), []), False)

    def test_the_same_again_and_by_name(self):
        for joint in TWOS[::5] + LARGER[::10]:
            for thing in every_marks(joint[0])[::7] + [None, [], {}]:
                self.steady(are_joint_right, joint=joint, thing=thing)

    def test_refused(self):
        for thing in NO_JOINTS:
            self.refused(NoJoint, are_joint_right, thing, ("in",))
            self.refused(NoJoint, are_joint_right, thing=(), joint=thing)
            self.refused(NoJoint, are_joint_right, thing, thing)


class JointMarks(Asking, unittest.TestCase):

    def test_every_row_of_marks_gone_through(self):
        for joint in TWOS + LARGER:
            told = self.own(joint_marks, joint)
            self.assertEqual(told, [marks for marks in every_marks(joint[0]) if right_by_the_words(joint, marks)], joint)
            self.assertEqual(told, sorted(set(told)))

    def test_by_hand(self):
        self.assertEqual(joint_marks(((), ())), [()])
        self.assertEqual(joint_marks((("a",), ())), [("in",)])
        self.assertEqual(joint_marks((("a",), ((("a",), "a"),))), [("open",)])
        self.assertEqual(joint_marks((("a", "b", "c"), ((("a", "b"), "c"),))), [("in", "in", "out")])
        rivals = (("a", "b"), ((("a",), "b"), (("b",), "a")))
        self.assertEqual(joint_marks(rivals), [("in", "out"), ("open", "open"), ("out", "in")])
        # What holds the struck name itself strikes it only where it is in, which it can't be then.
        self.assertEqual(joint_marks((("a", "b"), ((("a", "b"), "a"),))), [("open", "in")])

    def test_a_name_that_nothing_strikes_is_in(self):
        for joint in TWOS + LARGER:
            names, strikes = joint
            for at, name in enumerate(names):
                if name not in [other for lot, other in strikes]:
                    self.assertEqual({marks[at] for marks in joint_marks(joint)}, {"in"})

    def test_single_lots_are_a_plain_web(self):
        for names, strikes in TWOS:
            if all(len(lot) == 1 for lot, name in strikes):
                web = (names, tuple(sorted((lot[0], name) for lot, name in strikes)))
                self.assertEqual(joint_marks((names, strikes)), sorted(looked_at(web, names, words_of(web)["whole"])))

    def test_the_same_again_and_by_name(self):
        for joint in TWOS[::5] + LARGER[::10]:
            self.steady(joint_marks, joint=joint)

    def test_refused(self):
        for thing in NO_JOINTS:
            self.refused(NoJoint, joint_marks, thing)
            self.refused(NoJoint, joint_marks, joint=thing)


def looked_at(web, names, some):
    """Some lots of a web, each looked at for the names alone, as marks."""
    told = []
    for lot in some:
        hit = {other for one, other in web[1] if one in lot}
        told.append(tuple("in" if name in lot else "out" if name in hit else "open" for name in names))
    return told


def whole_by_the_words(web):
    """The whole lots of a web of many names, by the words of [20], with sets of names as numbers."""
    names = web[0]
    bit = {name: 1 << at for at, name in enumerate(names)}
    strikers = {name: [one for one, other in web[1] if other == name] for name in names}
    found = []
    for number in range(1 << len(names)):
        hit = 0
        for one, other in web[1]:
            if number & bit[one]:
                hit |= bit[other]
        defended = sum(bit[name] for name in names if all(hit & bit[one] for one in strikers[name]))
        if not hit & number and defended == number:
            found.append(tuple(name for name in names if number & bit[name]))
    return sorted(found)


class PlainOf(Asking, unittest.TestCase):

    def tells(self, joint, whole):
        """The told web has the joint one's names, and its whole lots tell the right marks, each once."""
        web = plain_of(joint)
        self.assertIs(type(web), tuple)
        self.assertTrue(is_web(web), (joint, web))
        self.assertLessEqual(len(web[0]), 12)
        self.assertLessEqual(set(joint[0]), set(web[0]))
        told = looked_at(web, joint[0], whole(web))
        want = [marks for marks in every_marks(joint[0]) if right_by_the_words(joint, marks)]
        self.assertEqual(sorted(told), want, (joint, web))

    def test_every_joint_web_of_up_to_two_names(self):
        for joint in TWOS:
            self.tells(joint, whole_by_the_words)
        for joint in TWOS[::9]:
            self.tells(joint, lambda web: words_of(web)["whole"])

    def test_larger_ones(self):
        for joint in LARGER:
            self.tells(joint, lambda web: lots(web, "whole"))
        for joint in LARGER[::6] + LARGER[-10:]:
            self.tells(joint, whole_by_the_words)

    def test_names_that_fresh_ones_might_be_made_of(self):
        shape = ((("p", "q"), "r"), (("q", "r", "s"), "p"), (("r",), "q"), (("s",), "s"))
        for names in (
            "a b c d", "a c e g", "b d f h", "e f g h", "i j k l", "w x y z", "aa ab b ba", "a aa aaa aaaa", "d h l p",
            "not notb or ors", "x xa xb xx", "aaaaaa bbbbbb y zzzzzz", "u v w x", "m n o p",
        ):
            names = tuple(names.split())
            known = dict(zip("pqrs", names))
            strikes = sorted((tuple(known[one] for one in lot), known[name]) for lot, name in shape)
            self.tells((names, tuple(strikes)), lambda web: lots(web, "whole"))

    def test_three_names_of_each_shape_with_few_strikes(self):
        every = all_joint_strikes(("a", "b", "c"))
        for many in range(3):
            for strikes in itertools.combinations(every, many):
                self.tells((("a", "b", "c"), strikes), lambda web: lots(web, "whole"))

    def test_nothing_handed_in_is_changed(self):
        for joint in TWOS[::5] + LARGER[::10]:
            before = repr(joint)
            for told in (plain_of(joint), plain_of(joint=joint)):
                self.assertTrue(is_web(told))
            self.assertEqual(repr(joint), before)

    def test_refused(self):
        for thing in NO_JOINTS:
            self.refused(NoJoint, plain_of, thing)
            self.refused(NoJoint, plain_of, joint=thing)


class Names(unittest.TestCase):

    def test_names_as_in_the_interface(self):
        self.assertEqual(list(inspect.signature(is_joint).parameters), ["thing"])
        self.assertEqual(list(inspect.signature(are_joint_right).parameters), ["joint", "thing"])
        self.assertEqual(list(inspect.signature(joint_marks).parameters), ["joint"])
        self.assertEqual(list(inspect.signature(plain_of).parameters), ["joint"])


if __name__ == "__main__":
    unittest.main()

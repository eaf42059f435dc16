"""Points [10] and [11], and what [2], [3] and [4] say of them."""

import inspect
import unittest

from everalike.errors import NoName, NoWeb, TooMany
from everalike.webs import is_web, strikers, struck, together
from tests.helper import LETTERS, NO_WEBS, ODD, Asking, all_webs, every_strike, picked_webs, ring, row

TWELVE = tuple(LETTERS[:12])

WEBS = (
    ((), ()),
    (("a",), ()),
    (("a",), (("a", "a"),)),
    (("abcdef",), (("abcdef", "abcdef"),)),
    (("a", "aa", "ab", "b"), (("a", "b"), ("aa", "ab"), ("b", "a"))),
    (("z", "zz", "zzzzzz"), ()),
    (TWELVE, ()),
    (TWELVE, every_strike(TWELVE)),
    row(12),
    ring(12),
)


class IsWeb(unittest.TestCase):

    def told(self, thing, want):
        before = repr(thing)
        self.assertIs(is_web(thing), want, before[:200])
        self.assertIs(is_web(thing=thing), want)
        self.assertEqual(repr(thing), before)

    def test_webs(self):
        for web in WEBS:
            self.told(web, True)

    def test_all_webs_of_few_names(self):
        for names in ((), ("b",), ("b", "bb")):
            for web in all_webs(names):
                self.told(web, True)

    def test_anything_else(self):
        for thing in NO_WEBS:
            self.told(thing, False)

    def test_how_many_names(self):
        for many in range(13):
            self.told((tuple(LETTERS[:many]), ()), True)
        for many in (13, 14, 26):
            self.told((tuple(LETTERS[:many]), ()), False)

    def test_letters_of_a_name(self):
        for size in range(1, 7):
            self.told((("q" * size,), ()), True)
        for name in ("", "abcdefg", "A", "aB", "Ab", "a1", "1", "a_", "a-b", "a b", " a", "a ", "a\n", "`", "{", "@"):
            self.told(((name,), ()), False)
        for letter in LETTERS:
            self.told(((letter,), ()), True)

    def test_names_rise(self):
        for names in (("b", "a"), ("a", "a"), ("a", "c", "b"), ("aa", "a"), ("a", "b", "b"), ("b", "a", "c")):
            self.told((names, ()), False)

    def test_strikes_rise(self):
        names = ("a", "b", "c")
        for strikes in (
            (("a", "b"), ("a", "a")), (("b", "a"), ("a", "b")), (("a", "b"), ("a", "b")),
            (("a", "a"), ("c", "c"), ("b", "b")), (("a", "a"), ("b", "b"), ("b", "b")),
        ):
            self.told((names, strikes), False)
            self.told((names, tuple(sorted(set(strikes)))), True)

    def test_strikes_are_of_two_of_the_names(self):
        for strikes in (
            (("a", "c"),), (("c", "a"),), (("c", "c"),), (("a", "a"), ("b", "c")), (("a",),), (("a", "a", "a"),), ((),),
            ("ab",), ("aa",), ("a",), (("a", 1),), ((None, "a"),), ((True, False),), ((("a",), "b"),), (("ab"),), (1,),
        ):
            self.told((("a", "b"), strikes), False)

    def test_lists_where_tuples_belong(self):
        for thing in (
            [("a",), (("a", "a"),)], (["a"], (("a", "a"),)), (("a",), [("a", "a")]), (("a",), (["a", "a"],)),
            [["a"], [["a", "a"]]], {"names": ("a",), "strikes": ()}, {("a",): ()}, (("a",), {("a", "a"): 1}),
            ({"a": 1}, ()), ("a", ()), ("", ()), ((), ""),
        ):
            self.told(thing, False)

    def test_other_numbers_of_parts(self):
        for thing in ((), ((),), ((), (), ()), (("a",),), (("a",), (), None)):
            self.told(thing, False)

    def test_odd_things_at_any_depth(self):
        for odd in ODD:
            for thing in (
                (odd, ()), (("a",), odd), ((odd,), ()), (("a", odd), ()), ((odd, "a"), ()), (("a",), (odd,)),
                (("a",), (("a", "a"), odd)), (("a",), (odd, ("a", "a"))), (("a",), (("a", odd),)),
                (("a",), ((odd, "a"),)), (("a",), ((odd, odd),)), (("a",), (), odd), (("a",), (("a", "a", odd),)),
                (odd, odd), ((odd, odd), ((odd, odd),)),
            ):
                self.told(thing, False)


class Strikers(Asking, unittest.TestCase):

    def test_told(self):
        web = (("a", "b", "c"), (("a", "b"), ("b", "b"), ("c", "a"), ("c", "b")))
        for name, before, behind in (("a", ["c"], ["b"]), ("b", ["a", "b", "c"], ["b"]), ("c", [], ["a", "b"])):
            self.assertEqual(self.own(strikers, web, name), before)
            self.assertEqual(self.own(struck, web, name), behind)

    def test_longer_names(self):
        web = (("a", "aa", "b"), (("a", "aa"), ("aa", "aa"), ("aa", "b"), ("b", "a")))
        self.assertEqual([strikers(web, name) for name in web[0]], [["b"], ["a", "aa"], ["aa"]])
        self.assertEqual([struck(web, name) for name in web[0]], [["aa"], ["aa", "b"], ["a"]])

    def test_of_every_web(self):
        for names, strikes in WEBS + tuple(all_webs(("a", "b"))) + tuple(picked_webs(TWELVE, 20)):
            for name in names:
                before = sorted(one for one, other in strikes if other == name)
                behind = sorted(other for one, other in strikes if one == name)
                self.assertEqual(self.steady(strikers, web=(names, strikes), name=name), before)
                self.assertEqual(self.steady(struck, web=(names, strikes), name=name), behind)

    def test_no_web(self):
        for ask in (strikers, struck):
            for thing in NO_WEBS:
                self.refused(NoWeb, ask, thing, "a")
                self.refused(NoWeb, ask, name="a", web=thing)

    def test_no_name(self):
        web = (("a", "c"), (("a", "c"),))
        for ask in (strikers, struck):
            for thing in ODD + ("b", "aa", "ac", ("a",), ["a"], ("a", "c")):
                self.refused(NoName, ask, web, thing)
                self.refused(NoName, ask, name=thing, web=web)
            self.refused(NoName, ask, ((), ()), "a")

    def test_no_web_is_ahead_of_no_name(self):
        for ask in (strikers, struck):
            for thing in ODD:
                self.refused(NoWeb, ask, thing, thing)
                self.refused(NoWeb, ask, (("b", "a"), ()), thing)


class Together(Asking, unittest.TestCase):

    def put(self, one, other):
        return self.steady(together, one=one, other=other)

    def test_the_same_names(self):
        one, other = (("a", "b"), (("a", "b"),)), (("a", "b"), (("a", "a"), ("a", "b"), ("b", "a")))
        self.assertEqual(self.put(one, other), other)
        self.assertEqual(self.put(one, (("a", "b"), (("b", "a"),))), (("a", "b"), (("a", "b"), ("b", "a"))))

    def test_some_names_in_common(self):
        one, other = (("a", "c"), (("c", "a"), ("c", "c"))), (("b", "c"), (("b", "c"), ("c", "b"), ("c", "c")))
        want = (("a", "b", "c"), (("b", "c"), ("c", "a"), ("c", "b"), ("c", "c")))
        self.assertEqual(self.put(one, other), want)
        self.assertEqual(self.put(other, one), want)

    def test_unlike_names(self):
        one, other = (("b", "z"), (("b", "z"),)), (("a", "bb"), (("a", "a"), ("bb", "a")))
        want = (("a", "b", "bb", "z"), (("a", "a"), ("b", "z"), ("bb", "a")))
        self.assertEqual(self.put(one, other), want)
        self.assertEqual(self.put(other, one), want)

    def test_none_and_itself(self):
        for web in WEBS:
            self.assertEqual(self.put(web, ((), ())), web)
            self.assertEqual(self.put(((), ()), web), web)
            self.assertEqual(self.put(web, web), web)

    def test_a_web_of_both(self):
        for one in picked_webs(("a", "c", "d"), 10):
            for other in picked_webs(("b", "c", "e"), 10, seed=7):
                told = self.put(one, other)
                self.assertIs(is_web(told), True)
                self.assertEqual(set(told[0]), set(one[0]) | set(other[0]))
                self.assertEqual(set(told[1]), set(one[1]) | set(other[1]))

    def test_twelve_names_together(self):
        one, other = row(7), (tuple("hijkl"), (("h", "l"),))
        told = self.put(one, other)
        self.assertEqual(told, (TWELVE, one[1] + other[1]))
        self.assertIs(is_web(told), True)
        self.assertEqual(self.put(row(12), ring(12))[0], TWELVE)

    def test_too_many(self):
        for one, other, many in (
            (row(7), (tuple("hijklm"), ()), 13), (row(12), (("m",), ()), 13), (row(12), (("l", "m"), ()), 13),
            (row(12), (tuple(LETTERS[12:24]), ()), 24),
        ):
            for error in (self.refused(TooMany, together, one, other), self.refused(TooMany, together, other, one)):
                self.assertEqual((error.many, error.most), (many, 12))

    def test_no_web(self):
        for thing in NO_WEBS:
            self.refused(NoWeb, together, thing, row(2))
            self.refused(NoWeb, together, row(2), thing)
            self.refused(NoWeb, together, thing, thing)
            self.refused(NoWeb, together, other=thing, one=row(2))

    def test_no_web_is_ahead_of_too_many(self):
        thirteen = (tuple(LETTERS[:13]), ())
        for thing in (thirteen, (tuple("nmo"), ()), (tuple("mn"), (("m", "o"),))):
            self.refused(NoWeb, together, row(12), thing)
            self.refused(NoWeb, together, thing, row(12))
        self.refused(NoWeb, together, thirteen, thirteen)


class Names(unittest.TestCase):

    def test_as_in_the_interface(self):
        for ask, names in (
            (is_web, ["thing"]), (strikers, ["web", "name"]), (struck, ["web", "name"]), (together, ["one", "other"]),
        ):
            self.assertEqual(list(inspect.signature(ask).parameters), names)


if __name__ == "__main__":
    unittest.main()

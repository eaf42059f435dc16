"""Point [110], and what [2], [3] and [4] say of it."""

import inspect
import itertools
import unittest

from everalike.errors import NoText, NoWeb
from everalike.texts import read_web, web_text
from tests.helper import LETTERS, NO_WEBS, ODD, Asking, all_webs, every_strike, picked_webs, ring, rivals, row

TWELVE = " ".join(LETTERS[:12])
WEBS = [web for names in ((), ("a",), ("a", "b"), ("word", "words")) for web in all_webs(names)] + [
    row(12), ring(12), rivals(6), (tuple(LETTERS[:12]), every_strike(LETTERS[:12])), (("abcdef", "zzzzzz"), ()),
    (("a", "aa", "aaa", "b"), every_strike(("a", "aa", "aaa", "b"))),
] + picked_webs(("a", "ab", "b", "ba"), 20) + picked_webs(tuple(LETTERS[14:26]), 5)


def written(web):
    """The text of a web, straight from the words of the point."""
    names, strikes = web
    left = "".join(" " + name for name in names) or " -"
    right = "".join(" " + one + ">" + other for one, other in strikes) or " -"
    return left[1:] + " :" + right


# A text, and the number of the first of its words that can't stand there.
WRONG = (
    ("a : - b", 4), ("- -", 2), ("a :", 3),
    # Words that are left out behind others that can stand.
    ("", 1), ("-", 2), ("a", 2), ("a b c", 4), ("- :", 3), ("a b :", 4), (TWELVE, 13), (TWELVE + " :", 14),
    # Blanks that part no words.
    (" ", 1), ("  ", 1), (" - : -", 1), (" a : -", 1), ("a  : -", 2), ("a :  -", 3), ("a : - ", 4), ("a : -  ", 4),
    ("- : - ", 4), ("-  : -", 2), ("a : a>a ", 4), ("a b : a>a  b>b", 5), ("a  b : -", 2), ("a ", 2), ("- ", 2), ("a : ", 3),
    # Tabs and line ends, which part nothing.
    ("a\t: -", 1), ("a :\t-", 2), ("a : -\n", 3), ("\na : -", 1), ("a\n: -", 1), ("a\tb : -", 1), ("- : -\t", 3),
    ("a : a>a\n", 3), ("\t", 1), ("\n", 1), ("a : - \n", 4), ("a b\n : -", 2),
    # What can't stand among names.
    (": -", 1), (":", 1), ("A : -", 1), ("a1 : -", 1), ("abcdefg : -", 1), ("a abcdefg : -", 2), ("a B : -", 2),
    ("a - : -", 2), ("a b - : -", 3), ("a>b : -", 1), ("a a>a : -", 2), ("a: -", 1), ("a :- -", 2), ("a -: -", 2),
    ("- a : -", 2), ("- - : -", 2), ("- :: -", 2), ("-: -", 1), ("-- : -", 1), ("a :: -", 2), ("a, b : -", 1), ("~", 1),
    # Names that don't rise, or too many.
    ("b a : -", 2), ("a a : -", 2), ("a c b : -", 3), ("b aa : -", 2), ("ab a : -", 2), ("a b b : -", 3),
    (TWELVE + " m : -", 13), (TWELVE + " m", 13), (TWELVE + " a : -", 13), (TWELVE + " - : -", 13),
    # What can't stand among strikes.
    ("a : a", 3), ("a : :", 3), ("a : a>a :", 4), ("a : a>a -", 4), ("a : - -", 4), ("a : - :", 4), ("a : - a>a", 4),
    ("- : a>a", 3), ("- : - -", 4), ("- : :", 3), ("- : >", 3), ("a : a>b", 3), ("a : b>a", 3), ("a : a>a a>b", 4),
    ("a : A>a", 3), ("a : >", 3), ("a : a>", 3), ("a : >a", 3), ("a : a>>a", 3), ("a : a>a>a", 3), ("a : aa", 3),
    ("a : a<a", 3), ("a : a>a,", 3), ("a : (a>a)", 3), ("a b : a>a>b", 4), ("a b : ab", 4), ("a b : a> b", 4),
    ("a b : a > b", 4), ("a b : a>b b", 5), ("a b : a-b", 4), ("a b : a>b -", 5), ("a b : --", 4),
    # Strikes that don't rise.
    ("a : a>a a>a", 4), ("a b : b>a a>b", 5), ("a b : a>b a>a", 5), ("a b : a>a b>b b>a", 6), ("a b : a>a b>b a>b", 6),
    ("a aa : aa>a a>aa", 5),
    # The first of several.
    ("b a b : a>a", 2), ("a  b  :", 2), ("a : b>b - -", 3), ("B a : a>a>", 1), ("a - - :", 2),
)


class WebText(Asking, unittest.TestCase):

    def test_by_hand(self):
        self.assertEqual(web_text((("a", "b"), (("a", "b"), ("b", "b")))), "a b : a>b b>b")
        self.assertEqual(web_text(((), ())), "- : -")
        self.assertEqual(web_text((("a",), ())), "a : -")
        self.assertEqual(web_text((("a",), (("a", "a"),))), "a : a>a")
        self.assertEqual(web_text((("abc", "word"), (("abc", "word"), ("word", "abc")))), "abc word : abc>word word>abc")

    def test_by_the_words(self):
        for web in WEBS:
            self.assertEqual(web_text(web), written(web))
            self.assertIs(type(web_text(web)), str)

    def test_the_same_again_and_by_name(self):
        for web in WEBS[::4]:
            self.steady(web_text, web=web)

    def test_refused(self):
        for thing in NO_WEBS:
            self.refused(NoWeb, web_text, thing)
            self.refused(NoWeb, web_text, web=thing)
        self.refused(NoWeb, web_text, "a : -")

    def test_names_as_in_the_interface(self):
        self.assertEqual(list(inspect.signature(web_text).parameters), ["web"])


class ReadWeb(Asking, unittest.TestCase):

    def test_each_the_other_way_about(self):
        for web in WEBS:
            self.assertEqual(repr(read_web(written(web))), repr(web))
            self.assertEqual(web_text(read_web(written(web))), written(web))
            self.assertEqual(read_web(web_text(web)), web)

    def test_by_hand(self):
        self.assertEqual(read_web("a b : a>b b>b"), (("a", "b"), (("a", "b"), ("b", "b"))))
        self.assertEqual(read_web("- : -"), ((), ()))
        self.assertEqual(read_web("a : -"), (("a",), ()))
        self.assertEqual(read_web("a b ba : a>ba b>a"), (("a", "b", "ba"), (("a", "ba"), ("b", "a"))))
        self.assertEqual(read_web(TWELVE + " : -"), (tuple(LETTERS[:12]), ()))

    def placed(self, text, place):
        for error in (self.refused(NoText, read_web, text), self.refused(NoText, read_web, text=text)):
            self.assertEqual(repr(error.place), repr(place), repr(text))

    def test_the_first_word_that_can_not_stand(self):
        for text, place in WRONG:
            self.placed(text, place)

    def test_what_is_no_text(self):
        for thing in ODD + (("a : -",), ["a : -"], {"a : -": 1}, (), row(2), ("- : -", "- : -"), 0, True, None):
            if not isinstance(thing, str):
                self.placed(thing, 0)

    def test_odd_texts(self):
        for thing in ODD:
            if isinstance(thing, str):
                self.refused(NoText, read_web, thing)

    def test_a_part_left_out_twice_or_put_in(self):
        # Among texts this near to a web's, just those that are some web's are read, as that web.
        known = {written(web): web for names in ((), ("a",), ("b",), ("a", "b")) for web in all_webs(names)}
        for text in [text for text in known if len(text) < 22]:
            for at in range(len(text) + 1):
                others = [text[:at] + sign + text[at:] for sign in "ab >:-\t"]
                others += [text[:at] + text[at + 1:], text[:at], text[at:], text[:at] + text[at:at + 1] + text[at:]]
                for other in others:
                    if other in known:
                        self.assertEqual(read_web(other), known[other])
                    elif "aa" not in other and "bb" not in other and "ab" not in other and "ba" not in other:
                        self.refused(NoText, read_web, other)

    def test_each_row_of_few_words(self):
        # By the words: each word that stands there is gone through, up to four.
        known = {written(web): web for names in ((), ("a",), ("b",), ("a", "b")) for web in all_webs(names)}
        starts = {" ".join(text.split(" ")[:many]) for text in known for many in range(1, 9)}
        for many in range(1, 5):
            for words in itertools.product(("a", "b", "-", ":", "a>a", "b>a", ""), repeat=many):
                text = " ".join(words)
                if text in known:
                    self.assertEqual(read_web(text), known[text])
                    continue
                fits = [at for at in range(1, many + 1) if " ".join(words[:at]) in starts]
                self.placed(text, len(fits) + 1)

    def test_the_same_again_and_by_name(self):
        for web in WEBS[::4]:
            self.steady(read_web, text=written(web))

    def test_names_as_in_the_interface(self):
        self.assertEqual(list(inspect.signature(read_web).parameters), ["text"])


if __name__ == "__main__":
    unittest.main()

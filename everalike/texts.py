"""Webs written as texts, and read from them."""

from everalike.errors import NoText
from everalike.webs import MOST_NAMES, check_web, is_name, is_strike


def row_text(words):
    """The text of a row of words, with a blank between each two."""
    return " ".join(words) if words else "-"


def web_text(web):
    """The text of a web."""
    check_web(web)
    names, strikes = web
    hits = [f"{one}>{other}" for one, other in strikes]
    return f"{row_text(names)} : {row_text(hits)}"


def strike_of(word):
    """The tuple that a word is written for, which may be no strike."""
    return tuple(word.split(">"))


def fits_name(row, word):
    """Whether a word can stand behind a row of names as one more."""
    if not is_name(word) or len(row) == MOST_NAMES:
        return False
    return not row or row[-1] < word


def fits_strike(names, row, word):
    """Whether a word can stand behind a row of strikes of the names as one more."""
    strike = strike_of(word)
    if not is_strike(strike, names):
        return False
    return not row or strike_of(row[-1]) < strike


def read_row(words, start, fits):
    """The row of the words that fit, one behind another, from a start on; none for a `-`."""
    row = []
    if words[start:start + 1] == ["-"]:
        return row
    for word in words[start:]:
        if not fits(row, word):
            break
        row.append(word)
    if not row:
        raise NoText(start + 1)
    return row


def read_web(text):
    """The web that is just so written."""
    if not isinstance(text, str):
        raise NoText(0)
    words = text.split(" ")
    names = read_row(words, 0, fits_name)
    # A row without anything is written by one word, too.
    between = max(len(names), 1)
    if words[between:between + 1] != [":"]:
        raise NoText(between + 1)
    hits = read_row(words, between + 1, lambda row, word: fits_strike(names, row, word))
    end = between + 1 + max(len(hits), 1)
    if end < len(words):
        raise NoText(end + 1)
    return (tuple(names), tuple([strike_of(word) for word in hits]))

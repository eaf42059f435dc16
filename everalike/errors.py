"""The errors by which the program refuses what is handed in."""


class WebError(ValueError):
    """What all refusals of this program have in common."""


class NoWeb(WebError):
    """A thing is no web."""


class NoLot(WebError):
    """A thing is no lot of the web."""


class NoName(WebError):
    """A thing is no name of the web."""


class NoKind(WebError):
    """A thing is no kind of lots, or none that is taken here."""


class NoPair(WebError):
    """Two webs have unlike names."""


class NoChanges(WebError):
    """A thing is no changes of the web."""


class NoCount(WebError):
    """A thing is no whole number within its bounds."""


class NoShut(WebError):
    """A thing is neither True nor False."""


class NoWay(WebError):
    """A thing is no way of being alike."""


class NoJoint(WebError):
    """A thing is no joint web."""


class NoSide(WebError):
    """A thing is no side of a pair."""


class NoDeed(WebError):
    """There is no turn to undo."""


class TooMany(WebError):
    """There are more names than are taken here."""

    def __init__(self, many, most):
        super().__init__(f"{many} names, of at most {most}")
        self.many = many
        self.most = most


class NoText(WebError):
    """A thing isn't the text of a web; its word at the place can't stand there."""

    def __init__(self, place):
        super().__init__(f"no text of a web, at word {place}")
        self.place = place

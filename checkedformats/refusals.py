"""The errors that stand for refused calls."""


class NoFormat(Exception):
    """A call needs a format and there is none."""


class WrongFormat(Exception):
    """A format is wrong at the directive that begins at this place."""

    def __init__(self, place):
        Exception.__init__(self, place)
        self.place = place


class NoDirective(Exception):
    """A format has no directive of this index."""


class WrongArguments(Exception):
    """The arguments are not those that a format takes, or a text lies outside the pool."""


class WrongAmount(Exception):
    """An argument for a width or a precision is out of bounds."""

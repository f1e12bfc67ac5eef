"""The errors that stand for refused calls."""


class NoFormat(Exception):
    """A call needs a format and there is none."""


class WrongFormat(Exception):
    """A format is wrong at the directive that begins at this place."""

    def __init__(self, place):
        Exception.__init__(self, place)
        self.place = place

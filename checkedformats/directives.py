"""What is known of one directive of a format."""

from checkedformats.signs import LETTER_S, LONG_LENGTHS, SIGNED, UNSIGNED

SIGNED_32 = 1
UNSIGNED_32 = 2
SIGNED_64 = 3
UNSIGNED_64 = 4
TEXT = 5


class Amount:
    """A width or a precision: none, a written number, or a star that takes an argument."""

    def __init__(self):
        self.present = False
        self.star = False
        self.number = 0
        # 0 as long as the argument is not known: by order it is settled only within the whole format.
        self.argument = 0


class Directive:
    """One directive, part by part, where its percent sign stands and how many bytes it has."""

    def __init__(self, place):
        self.place = place
        self.size = 0
        self.by_number = False
        self.argument = 0
        self.flags = []
        self.width = Amount()
        self.precision = Amount()
        self.length = ""
        self.conversion = 0


def own_kind(directive):
    """The kind of argument that the conversion itself takes."""
    is_long = directive.length in LONG_LENGTHS
    if directive.conversion == LETTER_S:
        return TEXT
    if directive.conversion in UNSIGNED:
        return UNSIGNED_64 if is_long else UNSIGNED_32
    if directive.conversion in SIGNED and is_long:
        return SIGNED_64
    return SIGNED_32


def taken_pairs(directive):
    """The arguments that a directive takes, each with its kind: width, precision, itself."""
    pairs = [(amount.argument, SIGNED_32) for amount in stars(directive)]
    pairs.append((directive.argument, own_kind(directive)))
    return pairs


def stars(directive):
    """The amounts that take an argument, in the order in which they take it."""
    return [amount for amount in (directive.width, directive.precision) if amount.star]

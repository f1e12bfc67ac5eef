"""The arguments that a format is rendered with, and whether they may be."""

from checkedformats.digits import signed_number
from checkedformats.directives import TEXT, stars
from checkedformats.misuse import first_misuse
from checkedformats.refusals import WrongAmount, WrongArguments
from checkedformats.scanning import HIGHEST_AMOUNT


class Argument:
    """An argument's kind, its length in bytes (of a text alone), and its number or its place in the pool."""

    def __init__(self, kind, size, value):
        self.kind = kind
        self.size = size
        self.value = value


def read_arguments(numbers):
    """The arguments, from three numbers each."""
    if len(numbers) % 3 != 0:
        raise WrongArguments()
    return [Argument(numbers[at], numbers[at + 1], numbers[at + 2]) for at in range(0, len(numbers), 3)]


def check_arguments(found, arguments, pool):
    """Pass over arguments that the format can be rendered with; refuse all others."""
    if first_misuse(found, [argument.kind for argument in arguments]) is not None:
        raise WrongArguments()
    for argument in arguments:
        if argument.kind == TEXT and argument.value + argument.size > len(pool):
            raise WrongArguments()
    for directive in found.directives:
        for amount in stars(directive):
            if not -HIGHEST_AMOUNT <= asked_amount(amount, arguments) <= HIGHEST_AMOUNT:
                raise WrongAmount()


def asked_amount(amount, arguments):
    """The number that a width or a precision comes to, below 0 only if it is given by a star."""
    if amount.star:
        # No length stands for 32 bits, which is what a star takes.
        return signed_number(arguments[amount.argument - 1].value, "")
    return amount.number

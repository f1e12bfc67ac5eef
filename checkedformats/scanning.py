"""Reading one directive's parts, in their order, from a format's bytes."""

from checkedformats.directives import Amount, Directive
from checkedformats.refusals import WrongFormat
from checkedformats.signs import (
    CONVERSIONS, DOLLAR, DOUBLED_LENGTHS, FLAGS, LENGTHS, NINE, POINT, STAR, ZERO,
)

HIGHEST_ARGUMENT = 16
HIGHEST_AMOUNT = 999
# What peek tells behind the last byte; no byte is like it.
END = 256


class Scanner:
    """A place within a format, moving from a directive's percent sign to behind its end."""

    def __init__(self, row, place):
        self.row = row
        self.place = place
        self.at = place + 1

    def peek(self):
        return self.row[self.at] if self.at < len(self.row) else END

    def take(self):
        sign = self.peek()
        self.at += 1
        return sign


def is_digit(sign):
    return ZERO <= sign <= NINE


def scan_number(scanner, least, most):
    """Read a decimal number with no zeros before it, within its bounds."""
    begin = scanner.at
    number = 0
    while is_digit(scanner.peek()):
        number = number * 10 + scanner.take() - ZERO
    digits = scanner.at - begin
    zero_before = digits > 1 and scanner.row[begin] == ZERO
    if digits == 0 or zero_before or not least <= number <= most:
        raise WrongFormat(scanner.place)
    return number


def scan_argument(scanner):
    """Read an argument's number and the dollar sign behind it."""
    number = scan_number(scanner, 1, HIGHEST_ARGUMENT)
    if scanner.take() != DOLLAR:
        raise WrongFormat(scanner.place)
    return number


def argument_is_next(scanner):
    """Only the dollar sign behind the digits tells an argument's number from a flag or a width."""
    ahead = scanner.at
    while ahead < len(scanner.row) and is_digit(scanner.row[ahead]):
        ahead += 1
    return scanner.at < ahead < len(scanner.row) and scanner.row[ahead] == DOLLAR


def scan_flags(scanner):
    flags = []
    while scanner.peek() in FLAGS:
        flag = scanner.take()
        if flag in flags:
            raise WrongFormat(scanner.place)
        flags.append(flag)
    return flags


def scan_star(scanner):
    amount = Amount()
    amount.present = True
    amount.star = True
    scanner.take()
    if is_digit(scanner.peek()):
        amount.argument = scan_argument(scanner)
    return amount


def scan_written(scanner, least):
    amount = Amount()
    amount.present = True
    amount.number = scan_number(scanner, least, HIGHEST_AMOUNT)
    return amount


def scan_width(scanner):
    if scanner.peek() == STAR:
        return scan_star(scanner)
    if is_digit(scanner.peek()):
        return scan_written(scanner, 1)
    return Amount()


def scan_precision(scanner):
    if scanner.peek() != POINT:
        return Amount()
    scanner.take()
    if scanner.peek() == STAR:
        return scan_star(scanner)
    if is_digit(scanner.peek()):
        return scan_written(scanner, 0)
    empty = Amount()
    empty.present = True
    return empty


def scan_length(scanner):
    name = LENGTHS.get(scanner.peek(), "")
    if name == "":
        return name
    sign = scanner.take()
    if name in DOUBLED_LENGTHS and scanner.peek() == sign:
        scanner.take()
        return name + name
    return name


def scan_conversion(scanner):
    sign = scanner.take()
    if sign not in CONVERSIONS:
        raise WrongFormat(scanner.place)
    return sign


def scan_directive(scanner):
    """Read a whole directive; the scanner stands behind its percent sign."""
    directive = Directive(scanner.place)
    if argument_is_next(scanner):
        directive.by_number = True
        directive.argument = scan_argument(scanner)
    directive.flags = scan_flags(scanner)
    directive.width = scan_width(scanner)
    directive.precision = scan_precision(scanner)
    directive.length = scan_length(scanner)
    directive.conversion = scan_conversion(scanner)
    directive.size = scanner.at - scanner.place
    return directive

"""The text that a format and its arguments make."""

from checkedformats.arguments import asked_amount, check_arguments, read_arguments
from checkedformats.digits import digits_of, signed_number, unsigned_number
from checkedformats.signs import BLANK, HASH, LETTER_C, LETTER_O, LETTER_S, MINUS, PERCENT, PLUS, SIGNED, ZERO


class Field:
    """What a directive makes of its argument, before the width is looked at."""

    def __init__(self, before, body):
        # A sign or 0x: the zeros of a wide field stand behind it.
        self.before = before
        self.body = body


def render(found, numbers, pool):
    """The text, a list of bytes; arguments that don't fit are refused before any is made."""
    arguments = read_arguments(numbers)
    check_arguments(found, arguments, pool)
    text = []
    at = 0
    for directive in found.directives:
        text.extend(plain_bytes(found.row, at, directive.place))
        field = field_of(directive, arguments, pool)
        text.extend(widened(field, directive, asked_amount(directive.width, arguments)))
        at = directive.place + directive.size
    text.extend(plain_bytes(found.row, at, len(found.row)))
    return text


def plain_bytes(row, begin, end):
    """The bytes between two directives, each doubled percent sign as one."""
    plain = []
    at = begin
    while at < end:
        plain.append(row[at])
        at += 2 if row[at] == PERCENT else 1
    return plain


def field_of(directive, arguments, pool):
    argument = arguments[directive.argument - 1]
    precision = asked_precision(directive, arguments)
    if directive.conversion == LETTER_C:
        return Field([], [argument.value % 256])
    if directive.conversion == LETTER_S:
        return Field([], shown_text(argument, precision, pool))
    least = 1 if precision is None else precision
    if directive.conversion in SIGNED:
        return signed_field(directive, signed_number(argument.value, directive.length), least)
    return unsigned_field(directive, unsigned_number(argument.value, directive.length), least)


def asked_precision(directive, arguments):
    """The precision, None if there is none."""
    asked = asked_amount(directive.precision, arguments)
    return asked if directive.precision.present and asked >= 0 else None


def shown_text(argument, precision, pool):
    size = argument.size if precision is None else min(argument.size, precision)
    return pool[argument.value:argument.value + size]


def signed_field(directive, number, least):
    return Field(sign_of(directive, number), digits_of(abs(number), directive.conversion, least))


def sign_of(directive, number):
    if number < 0:
        return [MINUS]
    return [flag for flag in (PLUS, BLANK) if flag in directive.flags]


def unsigned_field(directive, number, least):
    digits = digits_of(number, directive.conversion, least)
    if HASH not in directive.flags:
        return Field([], digits)
    if directive.conversion == LETTER_O:
        return Field([], digits if digits[:1] == [ZERO] else [ZERO] + digits)
    return Field([] if number == 0 else [ZERO, directive.conversion], digits)


def widened(field, directive, width):
    """The field with the blanks or zeros that the width asks for; a width below 0 puts them behind."""
    missing = max(abs(width) - len(field.before) - len(field.body), 0)
    if width < 0 or MINUS in directive.flags:
        return field.before + field.body + [BLANK] * missing
    if ZERO in directive.flags:
        return field.before + [ZERO] * missing + field.body
    return [BLANK] * missing + field.before + field.body

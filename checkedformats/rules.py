"""Whether a directive is right by itself."""

from checkedformats.directives import stars
from checkedformats.signs import BASED, BLANK, HASH, LETTER_C, MINUS, NUMERIC, PLUS, SIGNED, ZERO


def is_right(directive):
    return (
        sign_flags_fit(directive)
        and zero_fits(directive)
        and hash_fits(directive)
        and precision_fits(directive)
        and length_fits(directive)
        and stars_fit(directive)
    )


def sign_flags_fit(directive):
    plus = PLUS in directive.flags
    blank = BLANK in directive.flags
    if plus and blank:
        return False
    return directive.conversion in SIGNED or not (plus or blank)


def zero_fits(directive):
    if ZERO not in directive.flags:
        return True
    if MINUS in directive.flags or directive.precision.present:
        return False
    return directive.conversion in NUMERIC


def hash_fits(directive):
    return directive.conversion in BASED or HASH not in directive.flags


def precision_fits(directive):
    return directive.conversion != LETTER_C or not directive.precision.present


def length_fits(directive):
    return directive.conversion in NUMERIC or directive.length == ""


def stars_fit(directive):
    for amount in stars(directive):
        if (amount.argument > 0) != directive.by_number:
            return False
    return True

"""parse, args and type against a second reading of the document, made with a regular expression."""

import itertools
import random
import re
import unittest

from desk_calls import ARGS, COUNT, WRITE, as_bytes, ask, parse, type_of, written

PARTS = re.compile(
    r"%(?:(?P<own>[1-9][0-9]*)\$)?"
    r"(?P<flags>[-+ 0#]*)"
    r"(?P<width>[1-9][0-9]*|\*(?:[1-9][0-9]*\$)?)?"
    r"(?P<precision>\.(?:0|[1-9][0-9]*|\*(?:[1-9][0-9]*\$)?)?)?"
    r"(?P<length>hh|h|ll|l|j|z)?"
    r"(?P<conversion>[diuoxXcs])"
)


def model_directive(match):
    """The arguments taken, with types (None where order decides), or None if it is not right by itself."""
    own, flags, width, precision, length, letter = match.groups()
    amounts = [width or "", (precision or "")[1:]]
    written_numbers = [int(amount) for amount in amounts if amount.isdigit()]
    stars = [amount[1:-1] for amount in amounts if amount.startswith("*")]
    numbers = [int(text) for text in [own] + stars if text]
    wrong = (
        len(set(flags)) != len(flags)
        or any(number > 999 for number in written_numbers)
        or any(number > 16 for number in numbers)
        or set(flags) & set("+ ") and letter not in "di"
        or {"+", " "} <= set(flags)
        or "0" in flags and (letter not in "diuoxX" or "-" in flags or precision is not None)
        or "#" in flags and letter not in "oxX"
        or precision is not None and letter == "c"
        or length and letter not in "diuoxX"
        or any((own is None) != (star == "") for star in stars)
    )
    if wrong:
        return None
    big = 2 if length in ("l", "ll", "j", "z") else 0
    kind = 5 if letter == "s" else 1 if letter in "dic" else 2
    taken = [(int(star) if star else None, 1) for star in stars]
    return taken + [(int(own) if own else None, kind + big)]


def model(text):
    """(count, types) of a format that is taken, or the place of its first wrong directive."""
    at, count, types, ways = 0, 0, {}, set()
    while (at := text.find("%", at)) >= 0:
        if text[at:at + 2] == "%%":
            at += 2
            continue
        match = PARTS.match(text, at)
        taken = model_directive(match) if match else None
        if taken is None:
            return at
        count += 1
        ways.add(taken[-1][0] is None)
        for number, kind in taken:
            number = len(types) + 1 if number is None else number
            if types.setdefault(number, kind) != kind or number > 16:
                return at
        if count > 32 or len(ways) > 1:
            return at
        at = match.end()
    return count, types


class AgainstModel(unittest.TestCase):
    def agree(self, text):
        expected = model(text)
        if isinstance(expected, int):
            self.assertEqual(ask(parse(text), COUNT), [[-1, expected], [-9]], text)
            return False
        count, types = expected
        told = ask(parse(text), WRITE, COUNT, ARGS, *[type_of(number) for number in range(12)])
        self.assertEqual(told[:4], [[0], written(text), [0, count], [0, max(types, default=0)]], text)
        self.assertEqual(told[4:], [[0, types.get(number, 0)] for number in range(12)], text)
        told = ask(parse(text), *[type_of(number) for number in range(10, 20)])
        self.assertEqual(told[1:], [[0, types.get(number, 0)] for number in range(10, 20)], text)
        return True

    def test_every_short_text(self):
        for size in range(5):
            for signs in itertools.product("%1$0*.hdsx-", repeat=size):
                text = "%" + "".join(signs)
                told = ask(parse(text))
                expected = model(text)
                self.assertEqual(told, [[-1, expected] if isinstance(expected, int) else [0]], text)

    def test_every_choice_of_parts(self):
        choices = itertools.product(
            ("", "2$"), ("", "-", "+", " ", "0", "#", "-0", "+ ", "0#"), ("", "7", "*", "*1$"),
            ("", ".", ".0", ".*", ".*3$"), ("", "hh", "h", "l", "ll", "j", "z"), "diuoxXcs",
        )
        taken = [self.agree("%" + "".join(parts)) for parts in choices]
        self.assertIn(True, taken)
        self.assertIn(False, taken)

    def test_long_formats(self):
        source = random.Random(20)
        by_order = ("%d", "%s", "%*lu", "%.*s", "%5c", "%-*.*d", "%#X", "x", "%%")
        by_number = ("%1$d", "%2$s", "%3$lu", "%4$x", "%2$-9.3s", "%16$zd", "%2$*1$s", "%3$0*5$lx", "%5$c", "y", "%%")
        wrong = ("%", "%q", "%1$s", "%d", "%1$u", "%2$*2$s", "%0-d", "%.1000d")
        seen = set()
        for turn in range(3000):
            pool = source.choice((by_order, by_number))
            parts = [source.choice(pool) for _ in range(source.choice((3, 8, 14, 40)))]
            if turn % 3 == 0:
                parts.insert(source.randrange(len(parts) + 1), source.choice(wrong))
            text = "".join(parts)
            if len(as_bytes(text)) <= 300:
                seen.add(self.agree(text))
        self.assertEqual(seen, {True, False})


if __name__ == "__main__":
    unittest.main()

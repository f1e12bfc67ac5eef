"""The calls against a second reading of the document, made with a regular expression and Python's own texts."""

import itertools
import random
import re
import unittest

from desk_calls import (
    ARGS, COUNT, WRITE, as_bytes, ask, check, directive, parse, render, same, type_of, written,
)

PARTS = re.compile(
    r"%(?:(?P<own>[1-9][0-9]*)\$)?"
    r"(?P<flags>[-+ 0#]*)"
    r"(?P<width>[1-9][0-9]*|\*(?:[1-9][0-9]*\$)?)?"
    r"(?P<precision>\.(?:0|[1-9][0-9]*|\*(?:[1-9][0-9]*\$)?)?)?"
    r"(?P<length>hh|h|ll|l|j|z)?"
    r"(?P<conversion>[diuoxXcs])"
)


EDGES = (
    0, 1, 7, 8, 9, 10, 15, 16, 42, 127, 128, 255, 256, 32767, 32768, 65535, 65536, 2 ** 31 - 1, 2 ** 31, 2 ** 32 - 1,
    2 ** 32, 2 ** 63 - 1, 2 ** 63, 2 ** 64 - 1,
)


def model_directive(match):
    """The arguments taken, with types (None where order decides), or None if it is not right by itself."""
    own, flags, width, precision, length, letter = match.groups()
    amounts = [width or "", (precision or "")[1:]]
    written_numbers = [int(amount) for amount in amounts if amount.isdigit()]
    stars = [amount[1:-1] for amount in amounts if amount.startswith("*")]
    numbers = [int(text) for text in [own] + stars if text]
    wrong = (
        len(set(flags)) != len(flags)
        or any(number > 999 for number in written_numbers)
        or any(number > 16 for number in numbers)
        or set(flags) & set("+ ") and letter not in "di"
        or {"+", " "} <= set(flags)
        or "0" in flags and (letter not in "diuoxX" or "-" in flags or precision is not None)
        or "#" in flags and letter not in "oxX"
        or precision is not None and letter == "c"
        or length and letter not in "diuoxX"
        or any((own is None) != (star == "") for star in stars)
    )
    if wrong:
        return None
    big = 2 if length in ("l", "ll", "j", "z") else 0
    kind = 5 if letter == "s" else 1 if letter in "dic" else 2
    taken = [(int(star) if star else None, 1) for star in stars]
    return taken + [(int(own) if own else None, kind + big)]


def model(text):
    """(directives, types) of a format that is taken, or the place of its first wrong directive.

    A directive is its match and the arguments that it takes: of its width and its precision (if any), and its own.
    """
    at, directives, types, ways = 0, [], {}, set()
    while (at := text.find("%", at)) >= 0:
        if text[at:at + 2] == "%%":
            at += 2
            continue
        match = PARTS.match(text, at)
        taken = model_directive(match) if match else None
        if taken is None:
            return at
        ways.add(taken[-1][0] is None)
        numbers = []
        for number, kind in taken:
            number = len(types) + 1 if number is None else number
            if types.setdefault(number, kind) != kind or number > 16:
                return at
            numbers.append(number)
        directives.append((match, numbers))
        if len(directives) > 32 or len(ways) > 1:
            return at
        at = match.end()
    return directives, types


def has_star(amount):
    return amount is not None and "*" in amount


def model_directive_call(found, index):
    """What directive answers."""
    directives, types = found
    if index >= len(directives):
        return [-2]
    match, numbers = directives[index]
    rest = list(numbers)
    width = rest.pop(0) if has_star(match["width"]) else 0
    precision = rest.pop(0) if has_star(match["precision"]) else 0
    return [0, match.start(), len(match[0]), rest[0], width, precision, types[rest[0]]]


def model_check(found, given):
    """What check answers."""
    directives, types = found
    for index, (_, numbers) in enumerate(directives):
        for number in numbers:
            if not number <= len(given):
                return [0, 1, index, number]
            if given[number - 1] != types[number]:
                return [0, 2, index, number]
    spare = sorted(set(range(1, len(given) + 1)) - set(types))
    return [0, 3, -1, spare[0]] if spare else [0, 0]


def model_same(found, other):
    """What same answers, of a format that is taken."""
    return [0, min((number for number, _ in set(found[1].items()) ^ set(other[1].items())), default=0)]


def signed(value, bits):
    low = value & (1 << bits) - 1
    return low - (1 << bits) if low >> bits - 1 else low


def model_number(match, value, precision):
    """What stands before the digits, and these."""
    letter, flags = match["conversion"], match["flags"]
    bits = {None: 32, "h": 16, "hh": 8}.get(match["length"], 64)
    number = signed(value, bits) if letter in "di" else value & (1 << bits) - 1
    digits = format(abs(number), letter if letter in "oxX" else "d").zfill(precision or 0)
    if number == 0 and precision == 0:
        digits = ""
    before = "-" if number < 0 else "".join(flag for flag in flags if flag in "+ ")
    if "#" in flags and letter == "o" and not digits.startswith("0"):
        digits = "0" + digits
    if "#" in flags and letter in "xX" and number != 0:
        before = "0" + letter
    return before, digits


def model_field(match, numbers, arguments, pool):
    """One directive's part of the text."""
    rest = [arguments[number - 1] for number in numbers]
    flags, width, precision = match["flags"], match["width"] or "0", match["precision"]
    width = signed(rest.pop(0)[2], 32) if has_star(width) else int(width)
    if has_star(precision):
        precision = signed(rest.pop(0)[2], 32)
    elif precision is not None:
        precision = int(precision[1:] or "0")
    precision = None if precision is not None and precision < 0 else precision
    (_, size, value), = rest
    if match["conversion"] == "c":
        before, body = "", chr(value & 255)
    elif match["conversion"] == "s":
        before, body = "", pool[value:value + size][:precision]
    else:
        before, body = model_number(match, value, precision)
    if width < 0 or "-" in flags:
        return (before + body).ljust(abs(width))
    return before + body.rjust(width - len(before), "0") if "0" in flags else (before + body).rjust(width)


def model_render(text, found, arguments, pool):
    """What render answers to arguments of three numbers each."""
    if model_check(found, [kind for kind, _, _ in arguments]) != [0, 0]:
        return [-1]
    if any(kind == 5 and size + value > len(pool) for kind, size, value in arguments):
        return [-1]
    shown, at = "", 0
    for match, numbers in found[0]:
        if any(abs(signed(arguments[number - 1][2], 32)) > 999 for number in numbers[:-1]):
            return [-3]
        shown += text[at:match.start()].replace("%%", "%") + model_field(match, numbers, arguments, pool)
        at = match.end()
    return written(shown + text[at:].replace("%%", "%"))


class AgainstModel(unittest.TestCase):
    def agree(self, text):
        expected = model(text)
        if isinstance(expected, int):
            self.assertEqual(ask(parse(text), COUNT), [[-1, expected], [-9]], text)
            return False
        directives, types = expected
        told = ask(parse(text), WRITE, COUNT, ARGS, *[type_of(number) for number in range(12)])
        self.assertEqual(told[:4], [[0], written(text), [0, len(directives)], [0, max(types, default=0)]], text)
        self.assertEqual(told[4:], [[0, types.get(number, 0)] for number in range(12)], text)
        told = ask(parse(text), *[type_of(number) for number in range(10, 20)])
        self.assertEqual(told[1:], [[0, types.get(number, 0)] for number in range(10, 20)], text)
        indexes = sorted({0, 1, len(directives) // 2, max(len(directives) - 1, 0), len(directives)})
        told = ask(parse(text), *[directive(index) for index in indexes])
        self.assertEqual(told[1:], [model_directive_call(expected, index) for index in indexes], text)
        return True

    def test_every_short_text(self):
        for size in range(5):
            for signs in itertools.product("%1$0*.hdsx-", repeat=size):
                text = "%" + "".join(signs)
                told = ask(parse(text))
                expected = model(text)
                self.assertEqual(told, [[-1, expected] if isinstance(expected, int) else [0]], text)

    def test_every_choice_of_parts(self):
        choices = itertools.product(
            ("", "2$"), ("", "-", "+", " ", "0", "#", "-0", "+ ", "0#"), ("", "7", "*", "*1$"),
            ("", ".", ".0", ".*", ".*3$"), ("", "hh", "h", "l", "ll", "j", "z"), "diuoxXcs",
        )
        taken = [self.agree("%" + "".join(parts)) for parts in choices]
        self.assertIn(True, taken)
        self.assertIn(False, taken)

    def test_long_formats(self):
        source = random.Random(20)
        by_order = ("%d", "%s", "%*lu", "%.*s", "%5c", "%-*.*d", "%#X", "x", "%%")
        by_number = ("%1$d", "%2$s", "%3$lu", "%4$x", "%2$-9.3s", "%16$zd", "%2$*1$s", "%3$0*5$lx", "%5$c", "y", "%%")
        wrong = ("%", "%q", "%1$s", "%d", "%1$u", "%2$*2$s", "%0-d", "%.1000d")
        seen = set()
        for turn in range(3000):
            pool = source.choice((by_order, by_number))
            parts = [source.choice(pool) for _ in range(source.choice((3, 8, 14, 40)))]
            if turn % 3 == 0:
                parts.insert(source.randrange(len(parts) + 1), source.choice(wrong))
            text = "".join(parts)
            if len(as_bytes(text)) <= 300:
                seen.add(self.agree(text))
        self.assertEqual(seen, {True, False})


class MadeUp:
    """Formats and arguments, the same ones each time."""

    def __init__(self, seed):
        self.source = random.Random(seed)

    def parts(self, by_number):
        pick = self.source.choice
        star = f"*{pick(range(1, 7))}$" if by_number else "*"
        own = f"{pick(range(1, 7))}$" if by_number else ""
        flags = "".join(self.source.sample("-+ 0#", pick((0, 0, 1, 1, 2))))
        width = pick(("", "", "1", "4", "9", "23", star))
        precision = pick(("", "", ".", ".0", ".1", ".3", ".12", "." + star))
        length = pick(("", "", "hh", "h", "l", "ll", "j", "z"))
        return "%" + own + flags + width + precision + length + pick("diuoxXcs")

    def text(self):
        """A format that is taken."""
        by_number = self.source.random() < 0.5
        while True:
            pieces = [self.source.choice(("", "x", "%%", "ab%%")) + self.parts(by_number)
                      for _ in range(self.source.choice((0, 1, 1, 1, 2, 3, 5)))]
            text = "".join(pieces) + self.source.choice(("", "%%", "!"))
            if not isinstance(model(text), int):
                return text

    def number(self, for_amount):
        if for_amount and self.source.random() < 0.95:
            low = self.source.choice((0, 1, -1, 4, -4, 15, -15, 999, -999, self.source.randint(-1003, 1003)))
            return low % 2 ** 32 + self.source.choice((0, 2 ** 32, 2 ** 64 - 2 ** 32))
        return self.source.choice(EDGES + (self.source.randrange(2 ** 64),))

    def argument(self, kind, for_amount, pool):
        if kind != 5:
            return kind, self.source.choice((0, 5, 2 ** 64 - 1)), self.number(for_amount)
        begin = self.source.randint(0, len(pool))
        over = self.source.choice((0,) * 20 + (1,))
        return kind, self.source.randint(0, len(pool) - begin) + over, begin

    def arguments(self, found, pool):
        """Arguments that mostly fit the format."""
        directives, types = found
        amounts = {number for _, numbers in directives for number in numbers[:-1]}
        made = [self.argument(types.get(number, self.source.randint(0, 6)), number in amounts, pool)
                for number in range(1, max(types, default=0) + 1)]
        turn = self.source.random()
        if turn < 0.05:
            made.append(self.argument(self.source.randint(0, 6), False, pool))
        elif turn < 0.1 and made:
            made.pop()
        elif turn < 0.15 and made:
            made[self.source.randrange(len(made))] = self.argument(self.source.randint(0, 6), False, pool)
        return made

    def pool(self):
        return "".join(chr(self.source.randrange(256)) for _ in range(self.source.choice((0, 1, 5, 30))))


class MadeUpAgainstModel(unittest.TestCase):
    def test_check_and_render(self):
        made = MadeUp(5)
        seen = set()
        for _ in range(6000):
            text, pool = made.text(), made.pool()
            found = model(text)
            arguments = made.arguments(found, pool)
            types = [argument[0] for argument in arguments]
            told = ask(parse(text), check(*types), render(arguments, pool), WRITE)
            expected = [model_check(found, types), model_render(text, found, arguments, pool)]
            self.assertEqual(told, [[0]] + expected + [written(text)], (text, arguments, pool))
            seen.add((expected[0][1], expected[1][0]))
        self.assertEqual(seen, {(0, 0), (0, -1), (0, -3), (1, -1), (2, -1), (3, -1)})

    def test_same(self):
        made = MadeUp(6)
        seen = set()
        for _ in range(4000):
            one, other = made.text(), made.text()
            expected = model_same(model(one), model(other))
            self.assertEqual(ask(parse(one), same(other), WRITE), [[0], expected, written(one)], (one, other))
            seen.add(expected[1])
        self.assertLessEqual({0, 1, 2, 3}, seen)


if __name__ == "__main__":
    unittest.main()

"""The four promises, over formats and arguments that are made up."""

import itertools
import random
import unittest

from desk_calls import ARGS, COUNT, WRITE, ask, check, parse, render, rendered, same, show, type_of, types_of, written
from test_model import MadeUp


def fits(text, types):
    """Whether check tells that there is no misuse."""
    return ask(parse(text), check(*types))[1] == [0, 0]


def fitting_row(text):
    """The one row of types that fits a format, None if an argument below the highest is not taken."""
    row = types_of(text)[:ask(parse(text), ARGS)[1][1]]
    return None if 0 in row else row


class WrittenTheSame(unittest.TestCase):
    def test_what_is_read_is_written_the_same(self):
        made = MadeUp(1)
        for _ in range(3000):
            text = made.text()
            self.assertEqual(ask(parse(text), WRITE), [[0], written(text)])

    def test_what_is_written_is_read_again(self):
        made = MadeUp(2)
        for _ in range(1000):
            row = ask(parse(made.text()), WRITE)[1][1:]
            self.assertEqual(ask([1, *row], WRITE), [[0], [0, *row]])

    def test_random_bytes_are_taken_as_they_are_or_refused(self):
        source = random.Random(3)
        for _ in range(3000):
            row = [source.choice(b"%%%%1$0*.-+ #hldsxuc9\x00\xff") for _ in range(source.randrange(12))]
            told = ask([1, len(row)] + row, WRITE)
            if told[0] == [0]:
                self.assertEqual(told[1], [0, len(row)] + row)
            else:
                self.assertEqual((told[0][0], row[told[0][1]], told[1]), (-1, 37, [-9]))


class ToldRight(unittest.TestCase):
    def test_every_short_row(self):
        for text in ("", "%%", "%d", "%s", "%lu", "%d%s", "%*d", "%.*s", "%*.*u", "%2$s%1$d", "%1$d%1$d", "%2$d",
                     "%3$ld%1$d", "%1$*2$ld", "%d%u%s"):
            fitting = fitting_row(text)
            for size in range(5):
                for types in itertools.product(range(7), repeat=size):
                    self.assertEqual(fits(text, types), list(types) == fitting, (text, types))

    def test_rows_near_the_fitting_one(self):
        made = MadeUp(4)
        source = random.Random(4)
        for _ in range(1500):
            text = made.text()
            fitting = fitting_row(text)
            row = types_of(text)[:ask(parse(text), ARGS)[1][1]]
            others = [row, row[:-1], row + [1], row + [0], [], list(reversed(row))]
            if row:
                at = source.randrange(len(row))
                others.append(row[:at] + [source.randint(0, 6)] + row[at + 1:])
            for types in others:
                self.assertEqual(fits(text, types), types == fitting, (text, types))

    def test_a_text_is_made_only_of_types_that_are_told_right(self):
        made = MadeUp(5)
        for _ in range(1500):
            text = made.text()
            types = [made.source.randint(1, 5) for _ in range(made.source.randrange(4))]
            shown = rendered(text, [(kind, 0, 0) for kind in types])
            self.assertEqual(isinstance(shown, str), fits(text, types), (text, types))


class ToldTheSame(unittest.TestCase):
    def pairs(self, seed):
        """Formats that are told the same, found by the types that they take."""
        made = MadeUp(seed)
        by_types = {}
        for _ in range(2500):
            text = made.text()
            by_types.setdefault(tuple(types_of(text)), []).append(text)
        for texts in by_types.values():
            for one, other in zip(texts, texts[1:]):
                yield one, other

    def test_whatever_fits_the_one_fits_the_other(self):
        source = random.Random(6)
        count = 0
        for one, other in self.pairs(6):
            self.assertEqual(ask(parse(one), same(other)), [[0], [0, 0]], (one, other))
            count += 1
            taken = types_of(one)[:ask(parse(one), ARGS)[1][1]]
            arguments = [(kind, 2, source.choice((0, 1, 3, 5))) for kind in taken]
            for row in (arguments, arguments + [(1, 0, 0)], arguments[:-1], [(1, 0, 1)], []):
                kinds = [kind for kind, _, _ in row]
                self.assertEqual(fits(one, kinds), fits(other, kinds), (one, other, row))
                shown = [rendered(text, row, "abcde") for text in (one, other)]
                self.assertEqual(shown[0] == [-1], shown[1] == [-1], (one, other, row))
                self.assertEqual(isinstance(shown[0], str), isinstance(shown[1], str), (one, other, row))
        self.assertGreater(count, 500)

    def test_where_they_differ_no_row_fits_both(self):
        made = MadeUp(7)
        for _ in range(2000):
            one, other = made.text(), made.text()
            fitting = fitting_row(one)
            if fitting is not None:
                told = ask(parse(one), same(other), check(*fitting), parse(other), check(*fitting))
                self.assertEqual(told[1] == [0, 0], told[4] == [0, 0], (one, other))
                self.assertEqual(told[2], [0, 0])

    def test_the_argument_told_is_the_least_that_differs(self):
        made = MadeUp(8)
        for _ in range(1000):
            one, other = made.text(), made.text()
            least = ask(parse(one), same(other))[1][1]
            first, second = types_of(one), types_of(other)
            if least == 0:
                self.assertEqual(first, second)
            else:
                self.assertEqual(first[:least - 1], second[:least - 1])
                self.assertNotEqual(first[least - 1], second[least - 1])


class NeverNarrower(unittest.TestCase):
    VALUES = (0, 1, -1, 42, -128, 255, 2 ** 31 - 1, -2 ** 31, 2 ** 63, 2 ** 64 - 1)

    def one_directive(self, width):
        """Right directives with this width, every other part tried."""
        for flags, precision, length, letter in itertools.product(
            ("", "-", "+", " ", "0", "#", "-#", "0#", "+0", "- "), ("", ".", ".1", ".7"), ("", "hh", "l"), "duoxXcs",
        ):
            text = f"%{flags}{width}{precision}{length}{letter}"
            if ask(parse(text), COUNT)[0] == [0]:
                yield text, letter

    def test_written_widths(self):
        for width in (1, 2, 3, 8, 30, 999):
            for text, letter in self.one_directive(width):
                for value in ("", "abc", "x" * 40) if letter == "s" else self.VALUES:
                    self.assertGreaterEqual(len(show(text, value)), width, (text, value))

    def test_widths_by_star(self):
        for text, letter in self.one_directive("*"):
            for width in (-999, -30, -2, 0, 2, 30, 999):
                for value in ("", "abc", "x" * 40) if letter == "s" else self.VALUES[:6]:
                    shown = show(text, width, value)
                    self.assertGreaterEqual(len(shown), abs(width), (text, width, value))

    def test_a_wider_field_holds_the_narrow_one(self):
        for text, letter in self.one_directive(""):
            value = "abc" if letter == "s" else -42
            if "0" not in text.partition(".")[0]:
                wide = text[:-1].rstrip("hl")
                wide = wide.partition(".")[0] + "30" + text[len(wide.partition(".")[0]):]
                self.assertEqual(show(wide, value).strip(" "), show(text, value).strip(" "), (text, wide))

    def test_a_plain_d_says_its_number(self):
        source = random.Random(9)
        for _ in range(2000):
            bits = source.randrange(1, 64)
            number = source.randrange(-2 ** bits, 2 ** bits)
            self.assertEqual(show("%ld", number), str(number))
            small = source.randrange(-2 ** 31, 2 ** 31)
            self.assertEqual(show("%d", small), str(small))
            self.assertEqual(ask(parse("%d"), type_of(1), render([(1, 0, small % 2 ** 32)]))[2], written(str(small)))


if __name__ == "__main__":
    unittest.main()

"""directive: place, length, its argument, its width's, its precision's, its argument's type."""

import unittest

from desk_calls import COUNT, WRITE, ask, check, directive, parse, written

HUGE = 18446744073709551615


class Directive(unittest.TestCase):
    def tells(self, text, *expected):
        """The directives are just these: six numbers each, and behind the last one there is none."""
        calls = [directive(index) for index in range(len(expected) + 1)]
        told = ask(parse(text), *calls)
        self.assertEqual(told, [[0]] + [[0, *numbers] for numbers in expected] + [[-2]], text)

    def test_one_by_order(self):
        self.tells("%d", (0, 2, 1, 0, 0, 1))
        self.tells("%s", (0, 2, 1, 0, 0, 5))
        self.tells("%*d", (0, 3, 2, 1, 0, 1))
        self.tells("%.*d", (0, 4, 2, 0, 1, 1))
        self.tells("%*.*lu", (0, 6, 3, 1, 2, 4))

    def test_one_by_number(self):
        self.tells("%1$d", (0, 4, 1, 0, 0, 1))
        self.tells("%16$lx", (0, 6, 16, 0, 0, 4))
        self.tells("%3$*2$s", (0, 7, 3, 2, 0, 5))
        self.tells("%3$.*2$s", (0, 8, 3, 0, 2, 5))
        self.tells("%1$*16$.*15$u", (0, 13, 1, 16, 15, 2))
        self.tells("%2$*2$c", (0, 7, 2, 2, 0, 1))
        self.tells("%2$*2$.*2$d", (0, 11, 2, 2, 2, 1))

    def test_written_widths_and_precisions_take_no_argument(self):
        self.tells("%5d", (0, 3, 1, 0, 0, 1))
        self.tells("%999.999d", (0, 9, 1, 0, 0, 1))
        self.tells("%2$5.2s", (0, 7, 2, 0, 0, 5))
        self.tells("%*.5d", (0, 5, 2, 1, 0, 1))
        self.tells("%5.*d", (0, 5, 2, 0, 1, 1))
        self.tells("%.d%.0d", (0, 3, 1, 0, 0, 1), (3, 4, 2, 0, 0, 1))

    def test_its_arguments_type_not_its_widths(self):
        for spelling, kind in (("hhd", 1), ("hi", 1), ("d", 1), ("ld", 3), ("lld", 3), ("ji", 3), ("zd", 3),
                               ("hhu", 2), ("ho", 2), ("x", 2), ("X", 2), ("lu", 4), ("llo", 4), ("jx", 4), ("zX", 4),
                               ("c", 1), ("s", 5)):
            self.tells("%*" + spelling, (0, len(spelling) + 2, 2, 1, 0, kind))
            self.tells("%7$*9$" + spelling, (0, len(spelling) + 6, 7, 9, 0, kind))

    def test_several_by_order(self):
        self.tells(
            "%d%*s%.*x%*.*li%c",
            (0, 2, 1, 0, 0, 1), (2, 3, 3, 2, 0, 5), (5, 4, 5, 0, 4, 2), (9, 6, 8, 6, 7, 3), (15, 2, 9, 0, 0, 1),
        )

    def test_several_by_number(self):
        self.tells(
            "%2$s%1$d%2$s%1$*1$d%9$lx",
            (0, 4, 2, 0, 0, 5), (4, 4, 1, 0, 0, 1), (8, 4, 2, 0, 0, 5), (12, 7, 1, 1, 0, 1), (19, 5, 9, 0, 0, 4),
        )

    def test_text_and_double_percents_between(self):
        self.tells("ab%%%d cd%%%%%-+5.3llde", (4, 2, 1, 0, 0, 1), (13, 9, 2, 0, 0, 3))
        self.tells("%%d%1$d%%1$d%%", (3, 4, 1, 0, 0, 1))
        self.tells("x" * 298 + "%s", (298, 2, 1, 0, 0, 5))

    def test_flags_count_to_the_length(self):
        self.tells("%-+d% 05d%#0X", (0, 4, 1, 0, 0, 1), (4, 5, 2, 0, 0, 1), (9, 4, 3, 0, 0, 2))

    def test_none_in_formats_without_directives(self):
        for text in ("", "abc", "%%", "%%d"):
            self.tells(text)

    def test_the_last_one_and_behind_it(self):
        told = ask(parse("%1$d" * 32), directive(0), directive(31), directive(32), directive(33))
        self.assertEqual(told, [[0], [0, 0, 4, 1, 0, 0, 1], [0, 124, 4, 1, 0, 0, 1], [-2], [-2]])
        told = ask(parse("%d" * 16), directive(15), directive(16))
        self.assertEqual(told, [[0], [0, 30, 2, 16, 0, 0, 1], [-2]])

    def test_far_above(self):
        numbers = (3, 32, 255, 256, 300, 2 ** 31, 2 ** 32, 2 ** 32 + 1, 2 ** 63, 2 ** 64 - 3, HUGE - 1, HUGE)
        for number in numbers:
            self.assertEqual(ask(parse("%d%s%u"), directive(number)), [[0], [-2]], number)

    def test_no_format(self):
        for number in (0, 1, HUGE):
            self.assertEqual(ask(directive(number), COUNT, parse("%d"), directive(0)),
                             [[-9], [-9], [0], [0, 0, 2, 1, 0, 0, 1]])

    def test_a_refusal_changes_nothing(self):
        told = ask(parse("%s"), directive(1), WRITE, directive(0), check(5))
        self.assertEqual(told, [[0], [-2], written("%s"), [0, 0, 2, 1, 0, 0, 5], [0, 0]])

    def test_of_the_format_now(self):
        told = ask(parse("a%2$s%1$d"), parse("%"), directive(0), parse("%ld"), directive(0), directive(1))
        self.assertEqual(told, [[0], [-1, 0], [0, 1, 4, 2, 0, 0, 5], [0], [0, 0, 3, 1, 0, 0, 3], [-2]])


if __name__ == "__main__":
    unittest.main()

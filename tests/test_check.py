"""check: the first misuse of a row of types."""

import unittest

from desk_calls import COUNT, WRITE, ask, check, parse, type_of, written

HUGE = 18446744073709551615


class Check(unittest.TestCase):
    def tells(self, text, types, *expected):
        self.assertEqual(ask(parse(text), check(*types)), [[0], [0, *expected]], (text, types))

    def test_no_misuse(self):
        self.tells("%d", [1], 0)
        self.tells("%d%u%ld%lu%s%c", [1, 2, 3, 4, 5, 1], 0)
        self.tells("%*.*s", [1, 1, 5], 0)
        self.tells("%2$s%1$lu%2$s", [4, 5], 0)
        self.tells("%d" * 16, [1] * 16, 0)
        self.tells("%1$*2$.*3$lx", [4, 1, 1], 0)

    def test_formats_that_take_nothing(self):
        for text in ("", "abc", "%%"):
            self.tells(text, [], 0)
            for kind in (0, 1, 5, 6, HUGE):
                self.tells(text, [kind], 3, -1, 1)
            self.tells(text, [1] * 100, 3, -1, 1)

    def test_not_there(self):
        self.tells("%d", [], 1, 0, 1)
        self.tells("%d%d", [1], 1, 1, 2)
        self.tells("%d%d%d", [1], 1, 1, 2)
        self.tells("%16$d", [1] * 15, 1, 0, 16)
        self.tells("%2$s%1$d", [1], 1, 0, 2)
        self.tells("%d" * 16, [1] * 15, 1, 15, 16)

    def test_another_type(self):
        for spelling, right in (("d", 1), ("u", 2), ("ld", 3), ("lu", 4), ("s", 5), ("c", 1)):
            for kind in (0, 1, 2, 3, 4, 5, 6, 2 ** 32 + right, 2 ** 63 + right, HUGE):
                expected = [0] if kind == right else [2, 0, 1]
                self.tells("%" + spelling, [kind], *expected)
        self.tells("%d%s%d", [1, 1, 1], 2, 1, 2)
        self.tells("%d" * 16, [1] * 15 + [2], 2, 15, 16)

    def test_types_that_there_are_none_of(self):
        for kind in (0, 6, HUGE):
            self.tells("%d", [kind], 2, 0, 1)
            self.tells("%*d", [1, kind], 2, 0, 2)
            self.tells("%d", [1, kind], 3, -1, 2)
            self.tells("%2$d", [kind, 1], 3, -1, 1)

    def test_not_taken(self):
        self.tells("%d", [1, 1], 3, -1, 2)
        self.tells("%2$d", [1, 1], 3, -1, 1)
        self.tells("%1$d%3$d", [1, 1, 1], 3, -1, 2)
        self.tells("%1$d%3$d", [1, 1, 1, 1], 3, -1, 2)
        self.tells("%1$d%4$d", [1, 5, 5, 1, 5], 3, -1, 2)
        self.tells("%16$d", [1] * 16, 3, -1, 1)
        self.tells("%d" * 16, [1] * 17, 3, -1, 17)
        self.tells("%d" * 16, [1] * 100, 3, -1, 17)

    def test_within_one_directive_width_then_precision_then_itself(self):
        self.tells("%*.*s", [], 1, 0, 1)
        self.tells("%*.*s", [1], 1, 0, 2)
        self.tells("%*.*s", [1, 1], 1, 0, 3)
        self.tells("%*.*s", [5, 5, 1], 2, 0, 1)
        self.tells("%*.*s", [1, 5, 1], 2, 0, 2)
        self.tells("%*.*s", [1, 1, 1], 2, 0, 3)
        self.tells("%1$*3$.*2$s", [1, 5, 5], 2, 0, 3)
        self.tells("%1$*3$.*2$s", [1, 5, 1], 2, 0, 2)
        self.tells("%1$*3$.*2$s", [1, 1, 1], 2, 0, 1)
        self.tells("%1$*3$.*2$s", [], 1, 0, 3)
        self.tells("%1$*3$.*2$s", [1, 2], 1, 0, 3)
        self.tells("%1$.*2$s", [1], 1, 0, 2)

    def test_the_first_of_several_is_told(self):
        self.tells("%d%s", [2], 2, 0, 1)
        self.tells("%2$s%1$d", [2], 1, 0, 2)
        self.tells("%2$s%1$d", [2, 2], 2, 0, 2)
        self.tells("%1$d%4$s%2$d", [1, 2, 3], 1, 1, 4)
        self.tells("%3$d%1$d", [2, 9, 1], 2, 1, 1)
        self.tells("%1$d%9$*8$s", [1] * 7, 1, 1, 8)

    def test_an_argument_not_taken_is_told_only_behind_the_others(self):
        self.tells("%2$d%3$d", [1, 1], 1, 1, 3)
        self.tells("%2$d%3$d", [1, 1, 2], 2, 1, 3)
        self.tells("%2$d%3$d", [1, 1, 1], 3, -1, 1)
        self.tells("%d", [2, 1], 2, 0, 1)

    def test_an_argument_that_several_directives_take(self):
        text = "%1$d%2$s%2$s%1$*1$d"
        self.tells(text, [1, 5], 0)
        self.tells(text, [1], 1, 1, 2)
        self.tells(text, [1, 4], 2, 1, 2)
        self.tells(text, [5, 4], 2, 0, 1)
        self.tells(text, [1, 5, 5], 3, -1, 3)
        self.tells("%3$s%2$*1$d%1$d%2$c", [2, 2, 5], 2, 1, 1)

    def test_the_directives_index_counts_no_double_percents(self):
        self.tells("%%a%d%%%%%s%%", [1, 1], 2, 1, 2)

    def test_the_last_of_32_directives(self):
        self.tells("%1$d" * 31 + "%2$s", [1], 1, 31, 2)
        self.tells("%1$d" * 31 + "%2$s", [1, 1], 2, 31, 2)
        self.tells("%1$d" * 31 + "%2$s", [1, 5], 0)

    def test_the_format_stays_as_it_was(self):
        told = ask(parse("%d%s"), check(1), check(1, 5), check(1, 5, 5), WRITE, COUNT, type_of(2), type_of(3))
        self.assertEqual(told, [[0], [0, 1, 1, 2], [0, 0], [0, 3, -1, 3], written("%d%s"), [0, 2], [0, 5], [0, 0]])

    def test_no_format(self):
        for types in ([], [1], [2] * 100, [HUGE]):
            told = ask(check(*types), WRITE, parse("%d"), check(*types), check(1))
            self.assertEqual(told[:3] + told[4:], [[-9], [-9], [0], [0, 0]])

    def test_after_a_refused_parse_still_of_the_format_before(self):
        self.assertEqual(ask(parse("%s"), parse("%d%"), check(5), check(1)), [[0], [-1, 2], [0, 0], [0, 2, 0, 1]])


if __name__ == "__main__":
    unittest.main()

"""same: whether another format takes the same arguments by the same types."""

import unittest

from desk_calls import ARGS, COUNT, WRITE, ask, check, directive, parse, same, type_of, written


class Same(unittest.TestCase):
    def tells(self, one, other, expected):
        """The same either way round."""
        self.assertEqual(ask(parse(one), same(other)), [[0], [0, expected]], (one, other))
        self.assertEqual(ask(parse(other), same(one)), [[0], [0, expected]], (other, one))

    def test_the_same(self):
        for one, other in (
            ("", ""), ("", "abc"), ("%%", "x"), ("%d", "%d"), ("%d", "%5i!"), ("%d", "%c"), ("%d", "%hhd"),
            ("%u", "%#x"), ("%u", "%hX"), ("%ld", "%zi"), ("%jd", "%lld"), ("%lu", "%llo"), ("%s", "%-9.3s"),
            ("%*d", "%d%d"), ("%.*s", "%d%s"), ("%*.*s", "%d%c%s"), ("%d" * 16, "%*d" * 8),
        ):
            self.tells(one, other, 0)

    def test_the_same_by_order_and_by_number(self):
        self.tells("%d%s", "%2$s%1$d", 0)
        self.tells("%d%s", "%1$d%2$s%1$d", 0)
        self.tells("%*d", "%1$d%2$d", 0)
        self.tells("%s: %*.*lu", "%4$*2$.*3$lu - %1$s", 0)
        self.tells("%d" * 16, "".join(f"%{number}$c" for number in range(16, 0, -1)), 0)
        self.tells("%3$d%7$s", "%7$s%7$s%3$*3$i", 0)

    def test_another_type(self):
        spellings = ("%d", "%u", "%ld", "%lu", "%s")
        for one in spellings:
            for other in spellings:
                self.tells(one, other, 0 if one == other else 1)
        self.tells("%d%s%d", "%d%s%u", 3)
        self.tells("%16$d", "%16$u", 16)
        self.tells("%d" * 15 + "%s", "%d" * 16, 16)
        self.tells("%1$d%16$lu", "%1$d%16$u", 16)

    def test_an_argument_that_one_alone_takes(self):
        self.tells("", "%d", 1)
        self.tells("%%", "%1$s", 1)
        self.tells("%d", "%d%d", 2)
        self.tells("%d", "%d%d%d", 2)
        self.tells("%16$d", "", 16)
        self.tells("%1$d%16$d", "%d", 16)
        self.tells("%d" * 15, "%d" * 16, 16)
        self.tells("%1$d%3$d", "%1$d%2$d%3$d", 2)
        self.tells("%2$s", "%1$s", 1)
        self.tells("%9$s", "%8$s", 8)

    def test_the_least_of_several(self):
        self.tells("%d%d%d", "%u%s%d", 1)
        self.tells("%d%d%d", "%d%s%u", 2)
        self.tells("%4$d%2$s", "%4$u%3$d%2$s", 3)
        self.tells("%4$d%2$s", "%4$u%2$d", 2)
        self.tells("%5$d%9$s", "%9$d%4$d%5$d", 4)

    def test_order_of_the_directives_does_not_count(self):
        self.tells("%2$u%1$s%3$ld", "%3$ld%2$u%1$s", 0)

    def test_a_refused_format_and_its_place(self):
        for text, place in (("%", 0), ("%d%", 2), ("ab%%%q", 4), ("%d%1$d", 2), ("%1$d%1$s", 4), ("%d" * 17, 32),
                            ("%1$d" * 33, 128), ("x" * 299 + "%", 299), ("%+u", 0), ("%1$s%01$s", 4)):
            told = ask(parse("%s!"), same(text), WRITE, COUNT, ARGS, type_of(1), same("%s"), check(5))
            self.assertEqual(told, [[0], [-1, place], written("%s!"), [0, 1], [0, 1], [0, 5], [0, 0], [0, 0]], text)

    def test_the_format_stays_as_it_was(self):
        told = ask(parse("%2$s%1$d"), same("%d%s"), WRITE, same("%lu%lu%lu"), WRITE, COUNT, ARGS, type_of(1),
                   type_of(3), directive(0), check(1, 5), same("%d%s"))
        self.assertEqual(told, [[0], [0, 0], written("%2$s%1$d"), [0, 1], written("%2$s%1$d"), [0, 2], [0, 2], [0, 1],
                                [0, 0], [0, 0, 4, 2, 0, 0, 5], [0, 0], [0, 0]])

    def test_with_itself(self):
        for text in ("", "%%", "%d", "%2$*1$.*1$s", "%16$zx", "%1$d" * 32):
            self.tells(text, text, 0)

    def test_no_format_is_told_before_the_others_fault(self):
        for text in ("", "%d", "%", "x" * 300, "%d%"):
            told = ask(same(text), WRITE, parse("%d"), same("%d"))
            self.assertEqual(told, [[-9], [-9], [0], [0, 0]], text)

    def test_it_gives_no_format_where_there_is_none(self):
        self.assertEqual(ask(same("%d"), COUNT, same("%d"), check(1)), [[-9]] * 4)


if __name__ == "__main__":
    unittest.main()

"""render: widths and precisions that arguments give."""

import unittest

from desk_calls import RenderCase, rendered

HUGE = 18446744073709551615
TOO_FAR = [-3]
# Bits above the low 32, which count for nothing.
ABOVE = 0xabcdef0100000000


class Widths(RenderCase):
    def test_from_0_on(self):
        self.shows(("42", "%*d", 0, 42), ("42", "%*d", 1, 42), ("42", "%*d", 2, 42), (" 42", "%*d", 3, 42),
                   ("   42", "%*d", 5, 42), ("42".rjust(999), "%*d", 999, 42), ("42", "%-*d", 0, 42),
                   ("42   ", "%-*d", 5, 42), ("42".ljust(999), "%-*d", 999, 42))

    def test_below_0(self):
        self.shows(("42", "%*d", -1, 42), ("42", "%*d", -2, 42), ("42 ", "%*d", -3, 42), ("42   ", "%*d", -5, 42),
                   ("42".ljust(999), "%*d", -999, 42), ("42   ", "%-*d", -5, 42), ("-42  ", "%*d", -5, -42),
                   ("+42  ", "%+*d", -5, 42), ("0x2a  ", "%#*x", -6, 42))

    def test_zeros(self):
        self.shows(("42", "%0*d", 0, 42), ("00042", "%0*d", 5, 42), ("-0042", "%0*d", 5, -42),
                   ("0x002a", "%#0*x", 6, 42), ("+0042", "%+0*d", 5, 42), ("42".rjust(999, "0"), "%0*u", 999, 42))

    def test_below_0_there_are_no_zeros(self):
        self.shows(("42   ", "%0*d", -5, 42), ("-42  ", "%0*d", -5, -42), ("0x2a  ", "%#0*x", -6, 42),
                   ("+42  ", "%+0*d", -5, 42), ("052  ", "%0#*o", -5, 42), ("42".ljust(999), "%0*u", -999, 42))

    def test_of_c_and_s(self):
        self.shows(("  A", "%*c", 3, 65), ("A  ", "%*c", -3, 65), ("A", "%*c", 0, 65), ("  abc", "%*s", 5, "abc"),
                   ("abc  ", "%*s", -5, "abc"), ("abc", "%*s", 0, "abc"), ("abc", "%*s", 2, "abc"),
                   (" " * 999, "%*s", -999, ""))

    def test_by_number(self):
        self.shows(("   42", "%2$*1$d", 5, 42), ("   42", "%1$*2$d", 42, 5), ("42   ", "%1$*2$d", 42, -5),
                   ("  5", "%1$*2$d", 5, 3), ("    5", "%1$*1$d", 5), ("-5   ", "%1$*1$d", -5),
                   ("  a b  ", "%1$*3$s %2$*4$s", "a", "b", 3, -3))


class Precisions(RenderCase):
    def test_from_0_on(self):
        self.shows(("42", "%.*d", 0, 42), ("42", "%.*d", 1, 42), ("042", "%.*d", 3, 42), ("-042", "%.*d", 3, -42),
                   ("42".rjust(999, "0"), "%.*d", 999, 42), ("", "%.*d", 0, 0), ("0", "%.*d", 1, 0))

    def test_below_0_it_is_none(self):
        self.shows(("42", "%.*d", -1, 42), ("42", "%.*d", -5, 42), ("42", "%.*d", -999, 42), ("0", "%.*d", -1, 0),
                   ("0", "%.*x", -999, 0), ("0", "%#.*o", -1, 0), ("0", "%#.*x", -1, 0), ("+0", "%+.*d", -1, 0),
                   ("abc", "%.*s", -1, "abc"), ("abc", "%.*s", -2, "abc"), ("   42", "%5.*d", -4, 42))

    def test_by_number(self):
        self.shows(("00042", "%1$.*2$d", 42, 5), ("abc", "%2$.*1$s", 3, "abcde"), ("00005", "%1$.*1$d", 5),
                   ("-5", "%1$.*1$d", -5))

    def test_with_widths(self):
        self.shows(("  042", "%*.*d", 5, 3, 42), ("042  ", "%*.*d", -5, 3, 42), ("   42", "%*.*d", 5, -3, 42),
                   ("42   ", "%*.*d", -5, -3, 42), ("  042", "%3$*1$.*2$d", 5, 3, 42),
                   ("  003", "%1$*2$.*1$d", 3, 5), (" 0042", "%5.*d", 4, 42), (" 0042", "%*.4d", 5, 42),
                   ("0" * 999, "%*.*d", 999, 999, 0), ("0" * 999, "%*.*d", -999, 999, 0))


class Bounds(RenderCase):
    def test_widths(self):
        self.shows((TOO_FAR, "%*d", 1000, 1), (TOO_FAR, "%*d", -1000, 1), (TOO_FAR, "%*s", 1000, ""),
                   (TOO_FAR, "%-*c", -1000, 1), (TOO_FAR, "%0*x", 1001, 1), (TOO_FAR, "%2$*1$d", 1000, 1))

    def test_precisions(self):
        self.shows((TOO_FAR, "%.*d", 1000, 1), (TOO_FAR, "%.*d", -1000, 1), (TOO_FAR, "%.*s", 1000, "a"),
                   (TOO_FAR, "%.*s", -1000, "a"), (TOO_FAR, "%2$.*1$d", -1000, 1), (TOO_FAR, "%1$.*1$d", 1000))

    def test_far_beyond(self):
        for number in (1001, 9999, 2 ** 31 - 1, 2 ** 31, 2 ** 32 - 1001):
            for high in (0, ABOVE):
                self.assertEqual(rendered("%*d", [(1, 0, number + high), (1, 0, 1)]), TOO_FAR)
                self.assertEqual(rendered("%.*d", [(1, 0, number + high), (1, 0, 1)]), TOO_FAR)

    def test_only_one_of_several(self):
        self.shows((TOO_FAR, "%*.*d", 999, 1000, 1), (TOO_FAR, "%*.*d", -1000, 999, 1),
                   (TOO_FAR, "%d%*d%d", 1, 1000, 1, 1), (TOO_FAR, "%1$d%1$*1$d", 1000),
                   (TOO_FAR, "%d" * 13 + "%.*s", *[1] * 13, 1000, "x"))

    def test_a_number_that_is_no_width_may_be_any(self):
        self.shows(("1000", "%d", 1000), (" -1000", "%*d", 6, -1000), ("1000    5", "%2$d%1$*3$d", 5, 1000, 5))

    def test_the_low_32_bits_alone_count(self):
        for number, shown in ((5, "   42"), (0, "42"), (2 ** 32 - 5, "42   "), (999, "42".rjust(999)),
                              (2 ** 32 - 999, "42".ljust(999)), (1000, TOO_FAR), (2 ** 32 - 1000, TOO_FAR)):
            for high in (0, 2 ** 32, 2 ** 63, ABOVE, HUGE - (2 ** 32 - 1)):
                self.assertEqual(rendered("%*d", [(1, 0, number + high), (1, 0, 42)]), shown)
        for number, shown in ((3, "042"), (2 ** 32 - 3, "42"), (0, "42"), (2 ** 32 - 1000, TOO_FAR), (1000, TOO_FAR)):
            for high in (0, 2 ** 32, 2 ** 63, ABOVE, HUGE - (2 ** 32 - 1)):
                self.assertEqual(rendered("%.*d", [(1, 0, number + high), (1, 0, 42)]), shown)

    def test_all_bits_set_is_minus_one(self):
        self.shows(("42", "%*d", HUGE, 42), ("0", "%.*d", HUGE, 0), ("42", "%*d", 2 ** 32, 42))


if __name__ == "__main__":
    unittest.main()

"""render: whole numbers, their digits, signs, precisions and widths."""

import unittest

from desk_calls import RenderCase, rendered, show

LENGTHS = {"hh": 8, "h": 16, "": 32, "l": 64, "ll": 64, "j": 64, "z": 64}
HUGE = 18446744073709551615


class PlainNumbers(RenderCase):
    def test_written_out(self):
        self.shows(
            ("0", "%d", 0), ("1", "%d", 1), ("-1", "%d", -1), ("2147483647", "%d", 2 ** 31 - 1),
            ("-2147483648", "%d", 2 ** 31), ("-2147483648", "%i", -2 ** 31), ("-1", "%d", 2 ** 32 - 1),
            ("0", "%d", 2 ** 32), ("5", "%d", 2 ** 32 + 5), ("-1", "%d", HUGE),
            ("9223372036854775807", "%ld", 2 ** 63 - 1), ("-9223372036854775808", "%lld", 2 ** 63),
            ("-1", "%jd", HUGE), ("4294967296", "%zi", 2 ** 32),
            ("127", "%hhd", 127), ("-128", "%hhd", 128), ("-1", "%hhd", 255), ("0", "%hhd", 256), ("-1", "%hhd", HUGE),
            ("32767", "%hd", 32767), ("-32768", "%hi", 32768), ("-1", "%hd", 65535), ("0", "%hd", 65536),
            ("4294967295", "%u", HUGE), ("0", "%u", 2 ** 32), ("18446744073709551615", "%lu", HUGE),
            ("255", "%hhu", HUGE), ("65535", "%hu", HUGE), ("0", "%hhu", 256), ("1", "%hu", 65537),
            ("377", "%hho", 255), ("177777", "%ho", HUGE), ("37777777777", "%o", HUGE),
            ("1777777777777777777777", "%lo", HUGE), ("7", "%o", 7), ("10", "%o", 8),
            ("ff", "%hhx", 255), ("FF", "%hhX", 255), ("ffffffff", "%x", HUGE), ("FFFFFFFFFFFFFFFF", "%zX", HUGE),
            ("1234567890abcdef", "%lx", 0x1234567890abcdef), ("1234567890ABCDEF", "%llX", 0x1234567890abcdef),
            ("90abcdef", "%x", 0x1234567890abcdef), ("CDEF", "%hX", 0x1234567890abcdef), ("9", "%x", 9),
            ("a", "%x", 10), ("f", "%x", 15), ("10", "%x", 16), ("A", "%X", 10),
        )

    def test_every_conversion_with_every_length(self):
        spelled = {"d": "d", "i": "d", "u": "d", "o": "o", "x": "x", "X": "X"}
        for length, bits in LENGTHS.items():
            top = 2 ** bits
            edges = {0, 1, 2, 9, 10, top // 2 - 1, top // 2, top - 1, top, top + 1, top * 3 // 2, HUGE, HUGE - 1,
                     0x123456789abcdef0, 0xfedcba9876543210}
            for letter, base in spelled.items():
                for value in sorted(edge for edge in edges if edge <= HUGE):
                    low = value % top
                    number = low - top if letter in "di" and low >= top // 2 else low
                    self.shows((format(number, base), "%" + length + letter, value))

    def test_the_length_of_a_number_counts_for_nothing(self):
        for size in (0, 1, 5, 300, 2 ** 32, HUGE):
            self.assertEqual(rendered("%d", [(1, size, 42)]), "42")
            self.assertEqual(rendered("%lx", [(4, size, HUGE)]), "f" * 16)
            self.assertEqual(rendered("%*c", [(1, size, 3), (1, size, 65)]), "  A")

    def test_a_plain_d_says_its_number(self):
        for number in list(range(-130, 131)) + [10 ** power + step for power in range(10) for step in (-1, 0, 1)]:
            low = number if -2 ** 31 <= number < 2 ** 31 else 0
            self.shows((str(low), "%d", low), (str(number), "%ld", number), (str(-number), "%lli", -number))


class Precisions(RenderCase):
    def test_least_number_of_digits(self):
        self.shows(
            ("42", "%.1d", 42), ("42", "%.2d", 42), ("042", "%.3d", 42), ("00042", "%.5d", 42), ("-00042", "%.5d", -42),
            ("42", "%.0d", 42), ("42", "%.d", 42), ("-7", "%.d", -7), ("0052", "%.4o", 42), ("002a", "%.4x", 42),
            ("002A", "%.4X", 42), ("0042", "%.4u", 42), ("000", "%.3d", 0), ("0", "%.1d", 0), ("000", "%.3x", 0),
            ("0" * 998 + "7", "%.999d", 7), ("-" + "0" * 998 + "7", "%.999ld", -7),
            ("00000000018446744073709551615", "%.29lu", HUGE),
        )

    def test_zero_with_precision_zero_has_no_digits(self):
        for letter in "diuoxX":
            for length in LENGTHS:
                self.shows(("", "%." + length + letter, 0), ("", "%.0" + length + letter, 0))
                self.shows(("", "%.*" + length + letter, 0, 0), ("", "%.0l" + letter, 0))
        self.shows(("", "%.hhd", 256), ("", "%.0hu", 65536), ("", "%.u", 2 ** 32), ("4294967296", "%.lu", 2 ** 32))

    def test_zero_with_precision_zero_and_a_sign(self):
        self.shows(("+", "%+.d", 0), ("+", "%+.0d", 0), (" ", "% .i", 0), (" ", "% .0ld", 0), ("+", "%+.*d", 0, 0))
        self.shows(("    +", "%+5.d", 0), ("+    ", "%-+5.0d", 0), ("     ", "%5.0d", 0), ("     ", "%-5.x", 0))

    def test_zero_with_precision_zero_and_hash(self):
        self.shows(("0", "%#.o", 0), ("0", "%#.0o", 0), ("0", "%#.*o", 0, 0), ("    0", "%#5.0o", 0))
        self.shows(("0    ", "%-#5.o", 0), ("", "%#.x", 0), ("", "%#.0X", 0), ("", "%#.*x", 0, 0), ("   ", "%#3.x", 0))

    def test_with_widths_below_at_and_above(self):
        self.shows(
            ("00042", "%4.5d", 42), ("00042", "%5.5d", 42), (" 00042", "%6.5d", 42), ("00042 ", "%-6.5d", 42),
            ("-00042", "%6.5d", -42), (" -00042", "%7.5d", -42), ("+00042 ", "%-+7.5d", 42), ("  0x002a", "%#8.4x", 42),
        )


class Hash(RenderCase):
    def test_octal_gets_one_zero(self):
        self.shows(("052", "%#o", 42), ("0", "%#o", 0), ("01", "%#o", 1), ("037777777777", "%#o", HUGE),
                   ("01777777777777777777777", "%#lo", HUGE), ("0377", "%#hho", HUGE))

    def test_octal_that_begins_with_a_zero_already_gets_none(self):
        self.shows(("052", "%#.1o", 42), ("052", "%#.2o", 42), ("052", "%#.3o", 42), ("0052", "%#.4o", 42),
                   ("0", "%#.1o", 0), ("00", "%#.2o", 0), ("052", "%#.*o", 3, 42), ("052", "%#.*o", 2, 42))

    def test_octal_with_widths(self):
        self.shows(("052", "%#2o", 42), ("052", "%#3o", 42), (" 052", "%#4o", 42), ("052 ", "%-#4o", 42),
                   ("00052", "%#05o", 42), ("052", "%#03o", 42), ("052", "%#02o", 42), ("00000", "%#05o", 0))

    def test_hexadecimal(self):
        self.shows(("0x2a", "%#x", 42), ("0X2A", "%#X", 42), ("0x1", "%#x", 1), ("0xffffffff", "%#x", HUGE),
                   ("0XFFFFFFFFFFFFFFFF", "%#jX", HUGE), ("0xff", "%#hhx", HUGE), ("0x002a", "%#.4x", 42),
                   ("0x2a", "%#.0x", 42), ("0X2A", "%#.X", 42))

    def test_hexadecimal_zero_has_none(self):
        self.shows(("0", "%#x", 0), ("0", "%#X", 0), ("0", "%#lx", 0), ("0", "%#hhx", 256), ("0", "%#X", 2 ** 32),
                   ("0000", "%#.4x", 0), ("   0", "%#4x", 0), ("0000", "%#04X", 0), ("0   ", "%-#4x", 0))

    def test_hexadecimal_with_widths(self):
        self.shows(("0x2a", "%#3x", 42), ("0x2a", "%#4x", 42), (" 0x2a", "%#5x", 42), ("0x2a ", "%-#5x", 42),
                   ("0x2a", "%#04x", 42), ("0x02a", "%#05x", 42), ("0X00002A", "%0#8X", 42), ("  0X02A", "%#7.3X", 42))


class Signs(RenderCase):
    def test_plus_and_blank(self):
        self.shows(("+42", "%+d", 42), ("-42", "%+d", -42), ("+0", "%+d", 0), (" 42", "% d", 42), ("-42", "% d", -42),
                   (" 0", "% i", 0), ("+1", "%+hhd", 257), ("-1", "%+hhd", 255), (" 127", "% hhi", 127),
                   ("+9223372036854775807", "%+ld", 2 ** 63 - 1), ("-9223372036854775808", "% jd", 2 ** 63))

    def test_with_widths(self):
        self.shows(("+42", "%+2d", 42), ("+42", "%+3d", 42), (" +42", "%+4d", 42), ("+42 ", "%-+4d", 42),
                   ("  42", "% 4d", 42), (" 42 ", "% -4d", 42), (" -42", "% 4d", -42), ("-42 ", "%+-4d", -42))


class Widths(RenderCase):
    def test_below_at_and_above(self):
        for letter, digits in (("d", "1234"), ("i", "1234"), ("u", "1234"), ("o", "2322"), ("x", "4d2"), ("X", "4D2")):
            for width in (1, 2, 3, 4, 5, 6, 20, 999):
                self.shows((digits.rjust(width), f"%{width}{letter}", 1234),
                           (digits.ljust(width), f"%-{width}{letter}", 1234),
                           (digits.rjust(width, "0"), f"%0{width}{letter}", 1234))

    def test_zeros_stand_behind_the_sign(self):
        self.shows(("-0042", "%05d", -42), ("+0042", "%+05d", 42), (" 0042", "% 05d", 42), ("-0042", "%0+5d", -42),
                   ("-42", "%03d", -42), ("-42", "%02d", -42), ("+0000", "%+05d", 0), ("00000", "%05d", 0),
                   ("-" + "0" * 997 + "1", "%0999d", -1), ("-0128", "%05hhd", 128))

    def test_a_zero_flag_without_width(self):
        self.shows(("42", "%0d", 42), ("-42", "%0d", -42), ("+42", "%+0d", 42), ("0x2a", "%#0x", 42), ("0", "%0u", 0))

    def test_minus_without_width(self):
        self.shows(("42", "%-d", 42), ("+42", "%-+d", 42), ("0x2a", "%-#x", 42))


class Between(RenderCase):
    def test_text_stands_for_itself(self):
        self.shows(("", ""), ("abc", "abc"), ("%", "%%"), ("%%", "%%%%"), ("%d", "%%d"), ("100%", "%d%%", 100),
                   ("%5%", "%%%d%%", 5), ("a1b2c", "a%db%dc", 1, 2), ("12", "%d%d", 1, 2),
                   ("x%1%2%y", "x%%%d%%%d%%y", 1, 2))

    def test_every_byte_but_percent(self):
        every = "".join(chr(byte) for byte in range(256) if byte != 37)
        self.assertEqual(rendered(every, []), every)

    def test_by_number(self):
        self.shows(("2 1", "%2$d %1$d", 1, 2), ("7 +7 7", "%1$d %1$+d %1$i", 7), ("2 1 2", "%2$u %1$lu %2$x", 1, 2),
                   ("ff 255 377 FF", "%1$x %1$u %1$o %1$X", 255), ("65A-1", "%1$d%1$c%2$hhd", 65, 255))

    def test_all_of_16_arguments(self):
        numbers = list(range(101, 117))
        self.assertEqual(show(" %d" * 16, *numbers), "".join(f" {number}" for number in numbers))
        backwards = "".join(f" %{number}$d" for number in range(16, 0, -1))
        self.assertEqual(show(backwards, *numbers), "".join(f" {number}" for number in reversed(numbers)))

    def test_32_directives_as_wide_as_they_may_be(self):
        self.assertEqual(show("%1$999d" * 32, 8), ("8".rjust(999)) * 32)


if __name__ == "__main__":
    unittest.main()

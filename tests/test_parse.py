"""parse: which formats are taken, which are refused, and at which place."""

import unittest

from desk_calls import COUNT, WRITE, ask, parse, parsed, types_of, written

CONVERSIONS = "diuoxXcs"
NUMERIC = "diuoxX"
LENGTHS = ("hh", "h", "l", "ll", "j", "z")


class ParseCase(unittest.TestCase):
    def taken(self, *texts):
        for text in texts:
            with self.subTest(text=text):
                self.assertEqual(parsed(text), [0])

    def refused(self, *texts):
        """Refused at 0, and behind other bytes and %% at its own place."""
        for text in texts:
            with self.subTest(text=text):
                self.assertEqual(parsed(text), [-1, 0])
                self.assertEqual(parsed("ab%%" + text), [-1, 4])
                self.assertEqual(parsed("%%" * 2 + text + "%"), [-1, 4])


class PlainBytes(ParseCase):
    def test_empty(self):
        self.assertEqual(ask(parse(""), COUNT), [[0], [0, 0]])

    def test_bytes_stand_for_themselves(self):
        every = [byte for byte in range(256) if byte != 37]
        told = ask([1, len(every)] + every, WRITE, COUNT)
        self.assertEqual(told, [[0], [0, 255] + every, [0, 0]])

    def test_signs_of_directives_without_percent(self):
        self.taken("d", "1$d", "*", "-+ 0#", ".", "$", "hhd")

    def test_double_percent_is_no_directive(self):
        for text in ("%%", "a%%b", "%%%%", "%%d", "%%1$d%%"):
            with self.subTest(text=text):
                self.assertEqual(ask(parse(text), COUNT), [[0], [0, 0]])

    def test_double_percent_beside_a_directive(self):
        self.assertEqual(ask(parse("%%%d%%%s%%"), COUNT), [[0], [0, 2]])

    def test_double_percent_has_no_parts(self):
        self.refused("%-%", "%5%", "%1$%", "%.%", "%l%", "%*%", "%0%")

    def test_percent_at_the_end(self):
        self.assertEqual(parsed("%"), [-1, 0])
        self.assertEqual(parsed("abc%"), [-1, 3])
        self.assertEqual(parsed("%%%"), [-1, 2])
        self.assertEqual(parsed("%d%"), [-1, 2])

    def test_directive_cut_short(self):
        for text in ("%1", "%1$", "%-", "%5", "%*", "%1$*2", "%1$*2$", "%.", "%.5", "%.*", "%h", "%hh", "%l", "%z"):
            with self.subTest(text=text):
                self.assertEqual(parsed(text), [-1, 0])
                self.assertEqual(parsed("xy" + text), [-1, 2])


class Parts(ParseCase):
    def test_each_conversion(self):
        for letter in CONVERSIONS:
            self.taken("%" + letter, "%1$" + letter)

    def test_every_other_byte_is_no_conversion(self):
        for byte in range(256):
            if byte != 37 and chr(byte) not in CONVERSIONS:
                for row in ([37, byte], [37, byte, 33], [37, 49, 36, byte], [37, 46, byte]):
                    with self.subTest(row=row):
                        self.assertEqual(ask([1, len(row)] + row), [[-1, 0]])

    def test_every_byte_that_begins_no_part(self):
        for byte in set(range(256)) - set(b"%-+ 0#123456789*.hljz") - set(CONVERSIONS.encode()):
            sign = chr(byte)
            for text in ("%" + sign + "d", "%1" + sign + "d", "%." + sign + "d", "%.1" + sign + "d",
                         "%" + sign + "$d", "%1$" + sign + "d", "%1$*" + sign + "$d", "%h" + sign + "d"):
                if text != "%1$d":
                    with self.subTest(text=text):
                        self.assertEqual(parsed(text), [-1, 0])

    def test_each_flag(self):
        self.taken("%-d", "%+d", "% d", "%0d", "%#x")
        self.taken("%-c", "%-s", "%-5s", "%-u")

    def test_flags_in_any_order(self):
        self.taken("%-+d", "%+-d", "%- d", "% -d", "%+0d", "%0+d", "% 0d", "%0 d")
        self.taken("%#0x", "%0#x", "%-#o", "%#-X")

    def test_flag_twice(self):
        self.refused("%--d", "%++d", "%  d", "%00d", "%##x", "%-+-d", "%0+0d", "%#0#x", "%1$--d", "%005d")

    def test_argument_numbers(self):
        for number in range(1, 17):
            self.taken(f"%{number}$d")
        self.refused("%0$d", "%17$d", "%18$d", "%99$d", "%160$d", "%1000000000000000000001$d")

    def test_zeros_before_an_argument_number(self):
        self.refused("%01$d", "%016$d", "%00$d", "%001$d")
        self.refused("%1$*01$d", "%1$.*01$d")

    def test_argument_number_without_digits_or_twice(self):
        self.refused("%$d", "%-$d", "%1$$d", "%1$2$d", "%-1$d", "%+1$d", "%1 $d", "%1$*$d", "%*$d")

    def test_widths(self):
        self.taken("%1d", "%9d", "%10d", "%99d", "%100d", "%999d", "%1$1d", "%1$999s", "%16c", "%17u")
        self.refused("%1000d", "%1001d", "%9999s", "%1$1000d", "%99999999999999999999d", "%" + "9" * 200 + "d")

    def test_zero_is_a_flag_not_a_width(self):
        self.taken("%05d", "%0999d", "%1$05d")
        self.refused("%0s", "%05s", "%05c", "%-05d", "%01000d")

    def test_precisions(self):
        self.taken("%.d", "%.0d", "%.1d", "%.9d", "%.10d", "%.999d", "%.s", "%.0s", "%.999s", "%1$.5x", "%5.5d")
        self.refused("%.1000d", "%.9999s", "%1$.1000d", "%." + "9" * 200 + "d")

    def test_zeros_before_a_precision(self):
        self.refused("%.00d", "%.01d", "%.05d", "%.0999d", "%.000s")

    def test_signs_in_a_precision(self):
        self.refused("%.-1d", "%.+1d", "%. d", "%..d", "%.1.d", "%.#x")

    def test_stars_by_order(self):
        self.taken("%*d", "%.*d", "%*.*d", "%-*d", "%0*d", "%*.5d", "%5.*d", "%*c", "%*s", "%.*s", "%*.ld")
        self.refused("%**d", "%.**d", "%*5d", "%5*d", "%.*5d", "%.5*d", "%*-d", "%*0d")

    def test_stars_by_number(self):
        self.taken("%1$*2$d", "%1$.*2$d", "%1$*2$.*3$d", "%16$*15$.*14$d", "%1$*1$d", "%2$*1$.*1$s")
        self.refused("%1$*0$d", "%1$*17$d", "%1$.*0$d", "%1$.*17$d", "%1$*2d", "%1$.*2d", "%1$*2$$d", "%1$*2$3d")

    def test_lengths(self):
        for length in LENGTHS:
            for letter in NUMERIC:
                self.taken("%" + length + letter, "%1$5." + length + letter)

    def test_wrong_lengths(self):
        self.refused("%hhhd", "%llld", "%hld", "%lhd", "%jjd", "%zzd", "%zld", "%jhd", "%Ld", "%td", "%qd")

    def test_all_parts_together(self):
        self.taken("%-+5.3lld", "%#012hhx", "%16$-#999.999zX", "%1$ -*2$.*3$hi", "%- *.*li", "%2$0+*1$jd")

    def test_parts_in_another_order(self):
        self.refused("%5-d", "%.5-d", "%.5 5d", "%l5d", "%l.5d", "%l-d", "%h1$d", "%-1$d", "%.31$d", "%*1$d", "%5.+d")


class RightByItself(ParseCase):
    def test_plus_and_blank_only_with_d_and_i(self):
        self.taken("%+d", "%+i", "% d", "% i", "%+ld", "% hhi")
        for letter in "uoxXcs":
            self.refused("%+" + letter, "% " + letter, "%1$+" + letter)

    def test_plus_and_blank_not_both(self):
        self.refused("%+ d", "% +d", "%+ i", "%-+ d", "%+ u")

    def test_zero_only_with_numbers(self):
        for letter in NUMERIC:
            self.taken("%0" + letter, "%05" + letter, "%0*" + letter)
        self.refused("%0c", "%0s", "%05c", "%05s", "%0*s")

    def test_zero_not_with_minus(self):
        for letter in NUMERIC:
            self.refused("%-0" + letter, "%0-" + letter, "%0-5" + letter)

    def test_zero_not_with_a_precision(self):
        for letter in NUMERIC:
            self.refused("%0." + letter, "%0.0" + letter, "%05.3" + letter, "%0.*" + letter, "%1$0.*2$" + letter)

    def test_hash_only_with_o_x_and_big_x(self):
        self.taken("%#o", "%#x", "%#X", "%#lo", "%#.5x", "%#.0o")
        for letter in "diucs":
            self.refused("%#" + letter, "%-#5" + letter)

    def test_precision_not_with_c(self):
        self.taken("%c", "%5c", "%-5c", "%*c")
        self.refused("%.c", "%.0c", "%.1c", "%5.1c", "%.*c", "%1$.*2$c")
        for letter in NUMERIC + "s":
            self.taken("%." + letter, "%.3" + letter, "%.*" + letter)

    def test_length_only_with_numbers(self):
        for length in LENGTHS:
            self.refused("%" + length + "c", "%" + length + "s", "%1$" + length + "s")

    def test_stars_have_numbers_just_if_the_argument_has(self):
        self.taken("%*.*d", "%1$*2$.*3$d")
        self.refused("%1$*d", "%1$.*d", "%1$*2$.*d", "%1$*.*2$d", "%1$*.*d")
        self.refused("%*1$d", "%.*1$d", "%*1$.*2$d", "%*.*1$d", "%*1$.*d")


class Together(ParseCase):
    def test_by_number_and_by_order_mixed(self):
        self.assertEqual(parsed("%1$d%d"), [-1, 4])
        self.assertEqual(parsed("%d%1$d"), [-1, 2])
        self.assertEqual(parsed("a%d b%d c%3$d d%d"), [-1, 9])
        self.assertEqual(parsed("%1$d%%%1$d%*d"), [-1, 10])
        self.taken("%2$d%1$d", "%d%d")

    def test_most_directives(self):
        told = ask(parse("%1$d" * 32), COUNT)
        self.assertEqual(told, [[0], [0, 32]])
        self.assertEqual(parsed("%1$d" * 33), [-1, 128])
        self.assertEqual(parsed("%1$d" * 32 + "x%%" + "%1$d"), [-1, 131])
        self.assertEqual(parsed("%1$d" * 34), [-1, 128])

    def test_double_percents_do_not_count_as_directives(self):
        self.taken("%%" * 33, "%1$d%%" * 32, "%1$d" * 32 + "%%")

    def test_most_arguments_by_order(self):
        self.taken("%d" * 16, "%*.*d" * 5 + "%d", "%*d" * 8)
        self.assertEqual(parsed("%d" * 17), [-1, 32])
        self.assertEqual(parsed("%d" * 18), [-1, 32])
        self.assertEqual(parsed("%s" * 15 + "%*d"), [-1, 30])
        self.assertEqual(parsed("%s" * 14 + "%*.*d"), [-1, 28])
        self.assertEqual(parsed("%*.*d" * 5 + "%*d"), [-1, 25])
        self.assertEqual(parsed("%*.*d" * 6), [-1, 25])

    def test_argument_taken_by_two_types(self):
        self.assertEqual(parsed("%1$d%1$s"), [-1, 4])
        self.assertEqual(parsed("%1$d%1$u"), [-1, 4])
        self.assertEqual(parsed("%1$d%1$ld"), [-1, 4])
        self.assertEqual(parsed("%1$lu%2$d%1$ld"), [-1, 9])
        self.assertEqual(parsed("%2$s%1$*2$d"), [-1, 4])
        self.assertEqual(parsed("%2$s%1$.*2$d"), [-1, 4])
        self.assertEqual(parsed("%1$*2$d%2$s"), [-1, 7])
        self.assertEqual(parsed("%3$x%3$lx%3$x"), [-1, 4])

    def test_argument_taken_by_two_types_within_one_directive(self):
        self.refused("%1$*1$s", "%1$.*1$s", "%1$*1$u", "%1$.*1$ld", "%1$*2$.*1$x")

    def test_argument_taken_twice_by_one_type(self):
        self.taken("%1$d%1$i", "%1$d%1$c", "%1$hhd%1$hi", "%1$u%1$x%1$o%1$X", "%1$ld%1$lli%1$jd%1$zd")
        self.taken("%1$s%1$.3s", "%1$d%2$*1$s", "%1$*1$.*1$d", "%1$c%2$*1$ld")

    def test_the_first_wrong_directive_is_told(self):
        self.assertEqual(parsed("%d%q%"), [-1, 2])
        self.assertEqual(parsed("%1$d%1$s%q"), [-1, 4])
        self.assertEqual(parsed("%d%+u%1$d"), [-1, 2])
        self.assertEqual(parsed("%d" * 16 + "%1$d%q"), [-1, 32])
        self.assertEqual(parsed("%5 %d"), [-1, 0])
        self.assertEqual(parsed("a" * 299 + "%"), [-1, 299])


class Types(ParseCase):
    def test_types_of_conversions_and_lengths(self):
        for letters, short, long in (("di", 1, 3), ("uoxX", 2, 4)):
            for letter in letters:
                for length in ("", "hh", "h"):
                    self.assertEqual(types_of("%" + length + letter, 2), [short, 0])
                for length in ("l", "ll", "j", "z"):
                    self.assertEqual(types_of("%" + length + letter, 2), [long, 0])
        self.assertEqual(types_of("%c", 2), [1, 0])
        self.assertEqual(types_of("%s", 2), [5, 0])

    def test_stars_take_32_bits_signed(self):
        self.assertEqual(types_of("%*.*lu%*s%.*x", 8), [1, 1, 4, 1, 5, 1, 2, 0])
        self.assertEqual(types_of("%3$*5$.*1$s", 6), [1, 0, 5, 0, 1, 0])


class RefusedParse(ParseCase):
    def test_the_format_before_it_stays(self):
        for wrong in ("%", "%q", "%+u", "%1$d%s", "%1$d" * 33, "%d" * 17):
            with self.subTest(wrong=wrong):
                told = ask(parse("%2$s!%1$lx"), parse(wrong), WRITE, COUNT, [4], [5, 1], [5, 2], [5, 3])
                self.assertEqual(told[1][0], -1)
                self.assertEqual(told[2:], [written("%2$s!%1$lx"), [0, 2], [0, 2], [0, 4], [0, 5], [0, 0]])

    def test_where_there_was_none_there_is_none(self):
        told = ask(parse("%d%"), WRITE, COUNT, [4], [5, 1])
        self.assertEqual(told, [[-1, 2], [-9], [-9], [-9], [-9]])

    def test_the_next_parse_is_not_touched(self):
        told = ask(parse("%1$d%q"), parse("%s"), COUNT, [5, 1])
        self.assertEqual(told, [[-1, 4], [0], [0, 1], [0, 5]])


if __name__ == "__main__":
    unittest.main()

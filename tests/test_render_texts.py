"""render: c and s."""

import unittest

from desk_calls import RenderCase, rendered, show

HUGE = 18446744073709551615


class Bytes(RenderCase):
    def test_every_byte(self):
        for byte in range(256):
            self.assertEqual(rendered("%c", [(1, 0, byte)]), chr(byte))

    def test_the_low_8_bits_alone_count(self):
        self.shows(("A", "%c", 65 + 256), ("A", "%c", 65 + 2 ** 31), ("A", "%c", 65 + 2 ** 32),
                   ("A", "%c", 65 + 2 ** 63), ("\xff", "%c", HUGE), ("\x00", "%c", 256), ("\x00", "%c", 0),
                   ("\x80", "%c", -128))

    def test_a_percent_is_a_byte_like_others(self):
        self.shows(("%", "%c", 37), ("%d", "%cd", 37), ("%%", "%c%%", 37))

    def test_widths(self):
        self.shows(("A", "%1c", 65), (" A", "%2c", 65), ("    A", "%5c", 65), ("A    ", "%-5c", 65), ("A", "%-c", 65),
                   ("    \x00", "%5c", 256), (" " * 998 + "A", "%999c", 65), ("A" + " " * 998, "%-999c", 65))


class Texts(RenderCase):
    def test_plain(self):
        self.shows(("hello", "%s", "hello"), ("[hello]", "[%s]", "hello"), ("ab", "%s%s", "a", "b"),
                   ("ba", "%2$s%1$s", "a", "b"), ("aa", "%1$s%1$s", "a"))

    def test_empty(self):
        self.shows(("", "%s", ""), ("[]", "[%s]", ""), ("     ", "%5s", ""), ("     ", "%-5s", ""), ("", "%.5s", ""),
                   ("", "%.0s", ""), (" ", "%1.s", ""))

    def test_where_the_text_lies_in_the_pool(self):
        pool = "abcdefghij"
        for begin in range(11):
            for size in range(11 - begin):
                self.assertEqual(rendered("<%s>", [(5, size, begin)], pool), f"<{pool[begin:begin + size]}>")

    def test_texts_that_lie_over_one_another(self):
        self.assertEqual(rendered("%s %s %s", [(5, 3, 0), (5, 3, 1), (5, 5, 0)], "abcde"), "abc bcd abcde")

    def test_every_byte(self):
        pool = "".join(map(chr, range(256)))
        self.assertEqual(rendered("%s", [(5, 256, 0)], pool), pool)
        self.assertEqual(rendered("%s", [(5, 2, 0)], "\x00\x00"), "\x00\x00")

    def test_percents_in_a_text_are_no_directives(self):
        self.shows(("%d%%", "%s", "%d%%"), ("%s1", "%s%d", "%s", 1))

    def test_the_largest_pool(self):
        pool = "".join(chr(33 + at % 90) for at in range(300))
        self.assertEqual(rendered("%s", [(5, 300, 0)], pool), pool)
        self.assertEqual(rendered("%s", [(5, 1, 299)], pool), pool[299])
        self.assertEqual(rendered("%s", [(5, 0, 300)], pool), "")
        self.assertEqual(rendered("%1$s%1$s", [(5, 300, 0)], pool), pool * 2)

    def test_cut_by_the_precision(self):
        self.shows(("", "%.0s", "hello"), ("", "%.s", "hello"), ("h", "%.1s", "hello"), ("hell", "%.4s", "hello"),
                   ("hello", "%.5s", "hello"), ("hello", "%.6s", "hello"), ("hello", "%.999s", "hello"))

    def test_cut_in_the_middle_of_the_pool(self):
        self.assertEqual(rendered("%.2s", [(5, 3, 4)], "abcdefghij"), "ef")
        self.assertEqual(rendered("%.4s", [(5, 3, 4)], "abcdefghij"), "efg")

    def test_cut_by_a_star(self):
        self.shows(("", "%.*s", 0, "hello"), ("hel", "%.*s", 3, "hello"), ("hello", "%.*s", 5, "hello"),
                   ("hello", "%.*s", 999, "hello"), ("hello", "%.*s", -1, "hello"), ("hello", "%.*s", -999, "hello"))

    def test_widths(self):
        self.shows(("hello", "%4s", "hello"), ("hello", "%5s", "hello"), (" hello", "%6s", "hello"),
                   ("hello", "%-4s", "hello"), ("hello", "%-5s", "hello"), ("hello ", "%-6s", "hello"),
                   ("hello", "%-s", "hello"), (" " * 994 + "hello", "%999s", "hello"))

    def test_the_width_is_of_what_is_left_of_the_text(self):
        self.shows(("   he", "%5.2s", "hello"), ("he   ", "%-5.2s", "hello"), ("     ", "%5.s", "hello"),
                   ("hell", "%3.4s", "hello"), ("  hel", "%*.*s", 5, 3, "hello"), ("hel  ", "%*.*s", -5, 3, "hello"))

    def test_texts_and_numbers_together(self):
        self.assertEqual(show("%s has %d of %s (%c%x)", "ann", 3, "them", 35, 255), "ann has 3 of them (#ff)")


if __name__ == "__main__":
    unittest.main()

"""write, count, args and type; what is true of every list of calls."""

import contextlib
import io
import unittest

from checkedformats.desk import answers
from desk_calls import ARGS, COUNT, WRITE, ask, parse, type_of, types_of, written

HUGE = 18446744073709551615


class Write(unittest.TestCase):
    def test_gives_back_what_was_read(self):
        texts = (
            "", "a", "%%", "%d", "%i", "%.d", "%.0d", "%1$d", "%+-5d", "%-+5d", "%0#8x", "%#08x", "100%% of %s\n",
            "%2$*1$s%%%1$d", "%hhd%hd%ld%lld%jd%zd", "\x00\xff\x80", "%5.3s|%-*.*lX|",
        )
        for text in texts:
            with self.subTest(text=text):
                self.assertEqual(ask(parse(text), WRITE), [[0], written(text)])

    def test_every_byte(self):
        row = list(range(37)) + [37, 37] + list(range(38, 256))
        self.assertEqual(ask([1, len(row)] + row, WRITE), [[0], [0, 257] + row])

    def test_longest_format(self):
        text = "%1$d" * 32 + "%%" * 50 + "x" * 72
        self.assertEqual(len(text), 300)
        self.assertEqual(ask(parse(text), WRITE, COUNT, ARGS), [[0], written(text), [0, 32], [0, 1]])

    def test_twice_and_after_another_format(self):
        told = ask(parse("%d"), WRITE, WRITE, parse("%s!"), WRITE)
        self.assertEqual(told, [[0], written("%d"), written("%d"), [0], written("%s!")])

    def test_the_whole_answer_as_it_stands(self):
        self.assertEqual(answers([1, 2, 37, 115, 2, 3, 4, 5, 1]),
                         [1, 0, 4, 0, 2, 37, 115, 2, 0, 1, 2, 0, 1, 2, 0, 5])


class Count(unittest.TestCase):
    def test_counts(self):
        for text, number in (("", 0), ("abc", 0), ("%%%%", 0), ("%d", 1), ("%*.*d", 1), ("%1$d%1$d", 2),
                             ("%d" * 16, 16), ("%16$s", 1), ("%1$d" * 32, 32)):
            with self.subTest(text=text):
                self.assertEqual(ask(parse(text), COUNT), [[0], [0, number]])


class Args(unittest.TestCase):
    def test_highest_argument(self):
        for text, number in (("", 0), ("%%", 0), ("%d", 1), ("%d%s", 2), ("%*d", 2), ("%*.*d%d", 4), ("%1$d", 1),
                             ("%16$d", 16), ("%16$d%3$d", 16), ("%2$d%2$d", 2), ("%1$*7$d", 7), ("%1$.*9$d", 9),
                             ("%d" * 16, 16)):
            with self.subTest(text=text):
                self.assertEqual(ask(parse(text), ARGS), [[0], [0, number]])

    def test_of_the_format_now(self):
        self.assertEqual(ask(parse("%9$d"), parse("%d"), ARGS, type_of(9)), [[0], [0], [0, 1], [0, 0]])


class TypeCall(unittest.TestCase):
    def test_by_order(self):
        self.assertEqual(types_of("%d%u%ld%lu%s%c", 7), [1, 2, 3, 4, 5, 1, 0])
        self.assertEqual(types_of("%*.*s%.*lx", 6), [1, 1, 5, 1, 4, 0])

    def test_by_number_with_gaps(self):
        self.assertEqual(types_of("%7$s%2$lu%4$*9$d"), [0, 4, 0, 1, 0, 0, 5, 0, 1] + [0] * 8)
        self.assertEqual(types_of("%16$zx"), [0] * 15 + [4, 0])

    def test_no_argument_taken(self):
        self.assertEqual(types_of("%%"), [0] * 17)

    def test_zero_and_far_above(self):
        numbers = (0, 17, 18, 32, 33, 255, 256, 2 ** 32, 2 ** 32 + 1, 2 ** 63, 2 ** 64 - 16, HUGE)
        for text in ("%d" * 16, "%1$s"):
            for number in numbers:
                with self.subTest(text=text, number=number):
                    self.assertEqual(ask(parse(text), type_of(number)), [[0], [0, 0]])


class NoFormat(unittest.TestCase):
    def test_each_call_alone(self):
        for call in (WRITE, COUNT, ARGS, type_of(0), type_of(1), type_of(HUGE)):
            with self.subTest(call=call):
                self.assertEqual(ask(call), [[-9]])
                self.assertEqual(answers(list(call)), [1, -9])

    def test_the_calls_behind_are_still_found(self):
        told = ask(type_of(1), type_of(2), WRITE, parse("%u"), type_of(1), WRITE)
        self.assertEqual(told, [[-9], [-9], [-9], [0], [0, 2], written("%u")])

    def test_the_empty_format_is_one(self):
        told = ask(parse(""), WRITE, COUNT, ARGS, type_of(1))
        self.assertEqual(told, [[0], [0, 0], [0, 0], [0, 0], [0, 0]])


class ListsOfCalls(unittest.TestCase):
    def test_one_call(self):
        self.assertEqual(answers([1, 0]), [1, 0])
        self.assertEqual(answers([1, 1, 37]), [2, -1, 0])

    def test_sixteen_calls(self):
        calls = [WRITE, parse("%d"), COUNT, parse("%"), WRITE, ARGS, type_of(1), parse("%s%s")]
        calls += [COUNT, ARGS, type_of(2), type_of(3), parse(""), WRITE, COUNT, ARGS]
        self.assertEqual(len(calls), 16)
        self.assertEqual(ask(*calls), [
            [-9], [0], [0, 1], [-1, 0], written("%d"), [0, 1], [0, 1], [0],
            [0, 2], [0, 2], [0, 5], [0, 0], [0], [0, 0], [0, 0], [0, 0],
        ])

    def test_sixteen_of_the_longest_formats(self):
        text = "%16$s" + "x" * 295
        self.assertEqual(ask(*[parse(text)] * 15, WRITE), [[0]] * 15 + [written(text)])

    def test_what_is_handed_in_stays_as_it_was(self):
        for calls in (parse("%*d%s") + WRITE + COUNT + ARGS + type_of(3), parse("%d%"), list(WRITE)):
            before = list(calls)
            answers(calls)
            self.assertEqual(calls, before)

    def test_the_answer_is_a_list_of_its_own(self):
        calls = parse("%d") + WRITE
        first = answers(calls)
        kept = list(first)
        first.clear()
        self.assertEqual(answers(calls), kept)

    def test_nothing_is_kept_from_one_time_to_the_next(self):
        calls = WRITE + parse("%2$d%1$s") + parse("%q") + WRITE + COUNT + ARGS + type_of(1)
        first = answers(calls)
        answers(parse("%s"))
        self.assertEqual(answers(calls), first)
        self.assertEqual(ask(COUNT), [[-9]])

    def test_whole_numbers_alone_are_answered(self):
        told = answers(WRITE + parse("%d") + WRITE + COUNT + ARGS + type_of(1) + parse("%"))
        self.assertIs(type(told), list)
        for number in told:
            self.assertIs(type(number), int)

    def test_nothing_is_printed(self):
        out = io.StringIO()
        with contextlib.redirect_stdout(out), contextlib.redirect_stderr(out):
            answers(parse("%d") + WRITE + COUNT + ARGS + type_of(1) + parse("%"))
        self.assertEqual(out.getvalue(), "")


if __name__ == "__main__":
    unittest.main()

"""write, count, args and type; what is true of every list of calls, of all nine."""

import contextlib
import io
import unittest

from checkedformats.desk import answers
from desk_calls import (
    ARGS, COUNT, WRITE, ask, check, directive, parse, render, same, type_of, types_of, written,
)

HUGE = 18446744073709551615

# Every call once or more, answered and refused, each of a format and without one.
ALL_NINE = [
    render([(1, 0, 1)]), parse("<%*d|%s>"), WRITE, COUNT, ARGS, type_of(3), directive(0), check(1, 1, 5),
    same("%3$s%2$*1$d"), render([(1, 0, 4), (1, 0, 2 ** 32 - 7), (5, 3, 1)], "abcde"), directive(2), check(1, 1),
    same("%d%"), render([(1, 0, 1000), (1, 0, 0), (5, 0, 0)]), render([]), parse("%q"),
]
ALL_NINE_TOLD = [
    [-9], [0], written("<%*d|%s>"), [0, 2], [0, 3], [0, 5], [0, 1, 3, 2, 1, 0, 1], [0, 0],
    [0, 0], written("<  -7|bcd>"), [-2], [0, 1, 1, 3],
    [-1, 2], [-3], [-1], [-1, 0],
]


class Write(unittest.TestCase):
    def test_gives_back_what_was_read(self):
        texts = (
            "", "a", "%%", "%d", "%i", "%.d", "%.0d", "%1$d", "%+-5d", "%-+5d", "%0#8x", "%#08x", "100%% of %s\n",
            "%2$*1$s%%%1$d", "%hhd%hd%ld%lld%jd%zd", "\x00\xff\x80", "%5.3s|%-*.*lX|",
        )
        for text in texts:
            with self.subTest(text=text):
                self.assertEqual(ask(parse(text), WRITE), [[0], written(text)])

    def test_every_byte(self):
        row = list(range(37)) + [37, 37] + list(range(38, 256))
        self.assertEqual(ask([1, len(row)] + row, WRITE), [[0], [0, 257] + row])

    def test_longest_format(self):
        text = "%1$d" * 32 + "%%" * 50 + "x" * 72
        self.assertEqual(len(text), 300)
        self.assertEqual(ask(parse(text), WRITE, COUNT, ARGS), [[0], written(text), [0, 32], [0, 1]])

    def test_twice_and_after_another_format(self):
        told = ask(parse("%d"), WRITE, WRITE, parse("%s!"), WRITE)
        self.assertEqual(told, [[0], written("%d"), written("%d"), [0], written("%s!")])

    def test_the_whole_answer_as_it_stands(self):
        self.assertEqual(answers([1, 2, 37, 115, 2, 3, 4, 5, 1]),
                         [1, 0, 4, 0, 2, 37, 115, 2, 0, 1, 2, 0, 1, 2, 0, 5])


class Count(unittest.TestCase):
    def test_counts(self):
        for text, number in (("", 0), ("abc", 0), ("%%%%", 0), ("%d", 1), ("%*.*d", 1), ("%1$d%1$d", 2),
                             ("%d" * 16, 16), ("%16$s", 1), ("%1$d" * 32, 32)):
            with self.subTest(text=text):
                self.assertEqual(ask(parse(text), COUNT), [[0], [0, number]])


class Args(unittest.TestCase):
    def test_highest_argument(self):
        for text, number in (("", 0), ("%%", 0), ("%d", 1), ("%d%s", 2), ("%*d", 2), ("%*.*d%d", 4), ("%1$d", 1),
                             ("%16$d", 16), ("%16$d%3$d", 16), ("%2$d%2$d", 2), ("%1$*7$d", 7), ("%1$.*9$d", 9),
                             ("%d" * 16, 16)):
            with self.subTest(text=text):
                self.assertEqual(ask(parse(text), ARGS), [[0], [0, number]])

    def test_of_the_format_now(self):
        self.assertEqual(ask(parse("%9$d"), parse("%d"), ARGS, type_of(9)), [[0], [0], [0, 1], [0, 0]])


class TypeCall(unittest.TestCase):
    def test_by_order(self):
        self.assertEqual(types_of("%d%u%ld%lu%s%c", 7), [1, 2, 3, 4, 5, 1, 0])
        self.assertEqual(types_of("%*.*s%.*lx", 6), [1, 1, 5, 1, 4, 0])

    def test_by_number_with_gaps(self):
        self.assertEqual(types_of("%7$s%2$lu%4$*9$d"), [0, 4, 0, 1, 0, 0, 5, 0, 1] + [0] * 8)
        self.assertEqual(types_of("%16$zx"), [0] * 15 + [4, 0])

    def test_no_argument_taken(self):
        self.assertEqual(types_of("%%"), [0] * 17)

    def test_zero_and_far_above(self):
        numbers = (0, 17, 18, 32, 33, 255, 256, 2 ** 32, 2 ** 32 + 1, 2 ** 63, 2 ** 64 - 16, HUGE)
        for text in ("%d" * 16, "%1$s"):
            for number in numbers:
                with self.subTest(text=text, number=number):
                    self.assertEqual(ask(parse(text), type_of(number)), [[0], [0, 0]])


class NoFormat(unittest.TestCase):
    ALL_BUT_PARSE = (
        WRITE, COUNT, ARGS, type_of(0), type_of(1), type_of(HUGE), directive(0), directive(HUGE), check(), check(1, 2),
        check(*[HUGE] * 100), same(""), same("%d"), same("%"), same("x" * 300), render([]), render([(1, 0, 7)]),
        render([(5, 3, 0)], "abc"), render([], "x" * 300), [9, 1, 1, 0], [9, 0, 2, 1, 1],
    )

    def test_each_call_alone(self):
        for call in self.ALL_BUT_PARSE:
            with self.subTest(call=call):
                self.assertEqual(ask(call), [[-9]])
                self.assertEqual(answers(list(call)), [1, -9])

    def test_each_call_with_others_behind(self):
        for call in self.ALL_BUT_PARSE:
            with self.subTest(call=call):
                told = ask(call, call, parse("%u"), type_of(1), directive(0), WRITE)
                self.assertEqual(told, [[-9], [-9], [0], [0, 2], [0, 0, 2, 1, 0, 0, 2], written("%u")])

    def test_each_call_after_a_refused_parse(self):
        for call in self.ALL_BUT_PARSE:
            with self.subTest(call=call):
                self.assertEqual(ask(parse("%d%"), call, WRITE), [[-1, 2], [-9], [-9]])

    def test_the_calls_behind_are_still_found(self):
        told = ask(type_of(1), type_of(2), WRITE, parse("%u"), type_of(1), WRITE)
        self.assertEqual(told, [[-9], [-9], [-9], [0], [0, 2], written("%u")])

    def test_the_empty_format_is_one(self):
        told = ask(parse(""), WRITE, COUNT, ARGS, type_of(1), directive(0), check(), same(""), render([]))
        self.assertEqual(told, [[0], [0, 0], [0, 0], [0, 0], [0, 0], [-2], [0, 0], [0, 0], [0, 0]])


class ListsOfCalls(unittest.TestCase):
    def test_one_call(self):
        self.assertEqual(answers([1, 0]), [1, 0])
        self.assertEqual(answers([1, 1, 37]), [2, -1, 0])

    def test_sixteen_calls(self):
        calls = [WRITE, parse("%d"), COUNT, parse("%"), WRITE, ARGS, type_of(1), parse("%s%s")]
        calls += [COUNT, ARGS, type_of(2), type_of(3), parse(""), WRITE, COUNT, ARGS]
        self.assertEqual(len(calls), 16)
        self.assertEqual(ask(*calls), [
            [-9], [0], [0, 1], [-1, 0], written("%d"), [0, 1], [0, 1], [0],
            [0, 2], [0, 2], [0, 5], [0, 0], [0], [0, 0], [0, 0], [0, 0],
        ])

    def test_sixteen_calls_of_all_nine(self):
        self.assertEqual(len(ALL_NINE), 16)
        self.assertEqual(ask(*ALL_NINE), ALL_NINE_TOLD)

    def test_the_whole_answer_of_each_call_as_it_stands(self):
        begin = [1, 3, 33, 37, 100]
        self.assertEqual(answers(begin + [6, 0]), [1, 0, 7, 0, 1, 2, 1, 0, 0, 1])
        self.assertEqual(answers(begin + [6, 1]), [1, 0, 1, -2])
        self.assertEqual(answers(begin + [7, 1, 1]), [1, 0, 2, 0, 0])
        self.assertEqual(answers(begin + [7, 0]), [1, 0, 4, 0, 1, 0, 1])
        self.assertEqual(answers(begin + [7, 2, 1, 1]), [1, 0, 4, 0, 3, -1, 2])
        self.assertEqual(answers(begin + [8, 2, 37, 100]), [1, 0, 2, 0, 0])
        self.assertEqual(answers(begin + [8, 2, 37, 115]), [1, 0, 2, 0, 1])
        self.assertEqual(answers(begin + [8, 2, 65, 37]), [1, 0, 2, -1, 1])
        self.assertEqual(answers(begin + [9, 3, 1, 0, 42, 0]), [1, 0, 5, 0, 3, 33, 52, 50])
        self.assertEqual(answers(begin + [9, 0, 0]), [1, 0, 1, -1])
        self.assertEqual(answers([1, 0, 9, 0, 0]), [1, 0, 2, 0, 0])

    def test_rows_and_pools_of_0_and_of_the_most_numbers(self):
        bytes_300 = [at % 256 for at in range(300)]
        told = ask(
            check(), parse("%s"), check(), check(*[5] * 100), [7, 100] + [HUGE] * 100,
            [9, 0, 300] + bytes_300, [9, 3, 5, 300, 0, 300] + bytes_300, [9, 3, 5, 0, 0, 0],
            [9, 100] + [5, 0, 0] * 33 + [5, 300] + bytes_300, [9, 99] + [5, 0, 0] * 33 + [0], same("x" * 300), WRITE,
        )
        self.assertEqual(told, [
            [-9], [0], [0, 1, 0, 1], [0, 3, -1, 2], [0, 2, 0, 1], [-1], [0, 300] + bytes_300, [0, 0], [-1], [-1],
            [0, 1], written("%s"),
        ])

    def test_sixteen_of_the_longest_calls(self):
        text = "%d" * 16 + "x" * 268
        longest = render([(1, HUGE, HUGE)] * 16 + [(1, 0, 0)] * 17, "y" * 300)
        fitting = render([(1, HUGE, HUGE)] * 16, "y" * 300)
        told = ask(parse(text), *[longest] * 7, *[fitting] * 8)
        self.assertEqual(told, [[0]] + [[-1]] * 7 + [written("-1" * 16 + "x" * 268)] * 8)

    def test_sixteen_of_the_longest_texts(self):
        text = "%1$999d" * 32
        told = ask(parse(text), *[render([(1, 0, 5)])] * 15)
        self.assertEqual(told, [[0]] + [written((" " * 998 + "5") * 32)] * 15)

    def test_sixteen_of_the_longest_formats(self):
        text = "%16$s" + "x" * 295
        self.assertEqual(ask(*[parse(text)] * 15, WRITE), [[0]] * 15 + [written(text)])

    def test_what_is_handed_in_stays_as_it_was(self):
        lists = [parse("%*d%s") + WRITE + COUNT + ARGS + type_of(3), parse("%d%"), list(WRITE)]
        lists += [sum(ALL_NINE, []), sum(reversed(ALL_NINE), [])]
        lists += [parse("%s%-5s%05d") + call for call in ALL_NINE]
        for calls in lists:
            before = list(calls)
            answers(calls)
            self.assertEqual(calls, before)

    def test_the_answer_is_a_list_of_its_own(self):
        for calls in (parse("%d") + WRITE, sum(ALL_NINE, [])):
            first = answers(calls)
            kept = list(first)
            first.clear()
            self.assertEqual(answers(calls), kept)

    def test_nothing_is_kept_from_one_time_to_the_next(self):
        calls = WRITE + parse("%2$d%1$s") + parse("%q") + WRITE + COUNT + ARGS + type_of(1)
        first = answers(calls)
        answers(parse("%s"))
        self.assertEqual(answers(calls), first)
        self.assertEqual(ask(COUNT), [[-9]])
        self.assertEqual([ask(*ALL_NINE) for _ in range(3)], [ALL_NINE_TOLD] * 3)
        self.assertEqual(ask(directive(0), check(1), same("%d"), render([])), [[-9]] * 4)

    def test_whole_numbers_alone_are_answered(self):
        told = answers(sum(ALL_NINE, []))
        self.assertIs(type(told), list)
        for number in told:
            self.assertIs(type(number), int)

    def test_nothing_is_printed(self):
        out = io.StringIO()
        with contextlib.redirect_stdout(out), contextlib.redirect_stderr(out):
            answers(sum(ALL_NINE, []))
        self.assertEqual(out.getvalue(), "")

    def test_what_is_handed_in_is_not_changed_for_a_while_either(self):
        class Watched(list):
            """A list that lets nothing be changed, not for a while either."""

            def refuse(self, *handed):
                raise AssertionError("what is handed in was changed")

            append = extend = insert = pop = remove = clear = sort = reverse = refuse
            __setitem__ = __delitem__ = __iadd__ = __imul__ = refuse

        for call in ALL_NINE:
            handed = parse("%*d%s") + call
            self.assertEqual(answers(Watched(handed)), answers(handed))


if __name__ == "__main__":
    unittest.main()

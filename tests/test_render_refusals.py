"""render: what is refused, by which number, and that nothing is changed by it."""

import unittest

from desk_calls import ARGS, COUNT, WRITE, ask, check, directive, parse, render, rendered, same, type_of, written

HUGE = 18446744073709551615
WRONG = [-1]
TOO_FAR = [-3]


def raw_render(numbers, pool=()):
    return [9, len(numbers), *numbers, len(pool), *pool]


class LeftOver(unittest.TestCase):
    def test_one_or_two_numbers(self):
        for text, numbers in (("", []), ("%d", [1, 0, 7]), ("%d%d", [1, 0, 7, 1, 0, 8])):
            for more in ([1], [1, 0], [0], [5, 0], [HUGE], [HUGE, HUGE]):
                self.assertEqual(ask(parse(text), raw_render(numbers + more), COUNT)[1], WRONG, (text, numbers, more))
            self.assertEqual(ask(parse(text), raw_render(numbers))[1][0], 0)

    def test_too_few_numbers_for_one_argument(self):
        for numbers in ([1], [1, 0], [7]):
            self.assertEqual(ask(parse("%d"), raw_render(numbers)), [[0], WRONG])

    def test_100_numbers(self):
        self.assertEqual(ask(parse(""), raw_render([1] * 100)), [[0], WRONG])
        self.assertEqual(ask(parse("%d"), raw_render([1] * 100, [0] * 300), WRITE), [[0], WRONG, written("%d")])


class Misuse(unittest.TestCase):
    def test_not_there(self):
        self.assertEqual(rendered("%d", []), WRONG)
        self.assertEqual(rendered("%d%d", [(1, 0, 0)]), WRONG)
        self.assertEqual(rendered("%2$d%1$d", [(1, 0, 0)]), WRONG)
        self.assertEqual(rendered("%*d", [(1, 0, 0)]), WRONG)

    def test_another_type(self):
        for spelling, right in (("d", 1), ("u", 2), ("ld", 3), ("lu", 4), ("s", 5), ("c", 1)):
            for kind in (0, 1, 2, 3, 4, 5, 6, 2 ** 32 + right, HUGE):
                told = rendered("%" + spelling, [(kind, 0, 0)])
                if kind == right:
                    self.assertIsInstance(told, str)
                else:
                    self.assertEqual(told, WRONG)
        self.assertEqual(rendered("%*d", [(2, 0, 1), (1, 0, 1)]), WRONG)
        self.assertEqual(rendered("%.*d", [(3, 0, 1), (1, 0, 1)]), WRONG)

    def test_not_taken(self):
        self.assertEqual(rendered("", [(1, 0, 0)]), WRONG)
        self.assertEqual(rendered("%%", [(5, 0, 0)]), WRONG)
        self.assertEqual(rendered("%d", [(1, 0, 0)] * 2), WRONG)
        self.assertEqual(rendered("%2$d", [(1, 0, 0)] * 2), WRONG)
        self.assertEqual(rendered("%1$d%3$d", [(1, 0, 0)] * 3), WRONG)
        self.assertEqual(rendered("%d" * 16, [(1, 0, 0)] * 17), WRONG)
        self.assertEqual(rendered("%d" * 16, [(1, 0, 0)] * 33), WRONG)
        self.assertEqual(rendered("%d" * 16, [(1, 0, 0)] * 16), "0" * 16)


class Pool(unittest.TestCase):
    def test_at_its_end_and_behind(self):
        for pool in ("", "a", "abcde", "x" * 300):
            for begin in {0, 1, len(pool) // 2, max(len(pool) - 1, 0), len(pool), len(pool) + 1}:
                for size in {0, 1, max(len(pool) - begin, 0), max(len(pool) - begin, 0) + 1}:
                    expected = pool[begin:begin + size] if begin + size <= len(pool) else WRONG
                    self.assertEqual(rendered("%s", [(5, size, begin)], pool), expected, (pool, begin, size))

    def test_an_empty_text_behind_the_end(self):
        self.assertEqual(rendered("%s", [(5, 0, 5)], "abcde"), "")
        self.assertEqual(rendered("%s", [(5, 0, 6)], "abcde"), WRONG)
        self.assertEqual(rendered("%s", [(5, 0, 0)], ""), "")
        self.assertEqual(rendered("%s", [(5, 0, 1)], ""), WRONG)

    def test_huge_places_and_lengths(self):
        for size, begin in ((HUGE, 0), (0, HUGE), (HUGE, HUGE), (HUGE, 1), (1, HUGE), (2 ** 63, 2 ** 63),
                            (2 ** 32, 0), (0, 2 ** 32), (2 ** 31, 2 ** 31), (HUGE - 3, 4), (4, HUGE - 3)):
            self.assertEqual(rendered("%s", [(5, size, begin)], "abcde"), WRONG, (size, begin))
            self.assertEqual(rendered("%.0s", [(5, size, begin)], "abcde"), WRONG, (size, begin))

    def test_the_precision_does_not_bring_it_within(self):
        self.assertEqual(rendered("%.2s", [(5, 6, 0)], "abcde"), WRONG)
        self.assertEqual(rendered("%.*s", [(1, 0, 0), (5, 2, 4)], "abcde"), WRONG)

    def test_one_of_several_texts(self):
        self.assertEqual(rendered("%s%s%s", [(5, 1, 0), (5, 1, 4), (5, 5, 0)], "abcde"), "aeabcde")
        self.assertEqual(rendered("%s%s%s", [(5, 1, 0), (5, 2, 4), (5, 5, 0)], "abcde"), WRONG)
        self.assertEqual(rendered("%s%s%s", [(5, 1, 0), (5, 1, 4), (5, 5, 1)], "abcde"), WRONG)
        self.assertEqual(rendered("%s%s%s", [(5, 6, 0), (5, 1, 4), (5, 5, 0)], "abcde"), WRONG)

    def test_numbers_need_no_pool(self):
        self.assertEqual(rendered("%lu", [(4, HUGE, HUGE)]), "18446744073709551615")
        self.assertEqual(rendered("%d", [(1, 7, 2 ** 31 - 1)]), "2147483647")


class Order(unittest.TestCase):
    def test_minus_1_before_minus_3(self):
        wide = (1, 0, 1000)
        self.assertEqual(rendered("%*s", [wide, (5, 1, 0)], "a"), TOO_FAR)
        self.assertEqual(rendered("%*s", [wide, (5, 1, 0)], ""), WRONG)
        self.assertEqual(rendered("%*s", [wide, (1, 1, 0)], "a"), WRONG)
        self.assertEqual(rendered("%*s", [wide], "a"), WRONG)
        self.assertEqual(rendered("%*s", [wide, (5, 1, 0), (1, 0, 0)], "a"), WRONG)
        self.assertEqual(rendered("%.*s", [wide, (5, 2, 0)], "a"), WRONG)
        self.assertEqual(rendered("%*d%s", [wide, (1, 0, 0), (5, 0, 2)], "a"), WRONG)
        self.assertEqual(ask(parse("%*d"), raw_render([1, 0, 1000, 1, 0, 0, 1]))[1], WRONG)
        self.assertEqual(ask(parse("%*d"), raw_render([1, 0, 1000, 1, 0, 0]))[1], TOO_FAR)


class NothingIsChanged(unittest.TestCase):
    def test_after_each_refusal(self):
        text = "%2$s!%1$*3$ld"
        right = render([(3, 0, 5), (5, 1, 0), (1, 0, 3)], "a")
        behind_the_pool = render([(3, 0, 0), (5, 1, 1), (1, 0, 0)], "a")
        too_wide = render([(3, 0, 0), (5, 1, 0), (1, 0, 1000)], "a")
        for wrong in (raw_render([1]), render([]), render([(1, 0, 0)] * 3), behind_the_pool, too_wide):
            told = ask(parse(text), right, wrong, WRITE, COUNT, ARGS, type_of(1), directive(0), check(3, 5, 1),
                       same(text), right)
            self.assertIn(told[2], (WRONG, TOO_FAR))
            self.assertEqual(told[:2] + told[3:], [[0], written("a!  5"), written(text), [0, 2], [0, 3], [0, 3],
                                                   [0, 0, 4, 2, 0, 0, 5], [0, 0], [0, 0], written("a!  5")])

    def test_after_a_text_was_made(self):
        right = render([(1, 0, 5), (1, 0, 7)])
        self.assertEqual(ask(parse("%*d"), right, WRITE, right, COUNT),
                         [[0], written("    7"), written("%*d"), written("    7"), [0, 1]])

    def test_a_refused_parse_leaves_the_format_to_render(self):
        self.assertEqual(ask(parse("<%c>"), parse("%c%"), same("%q"), render([(1, 0, 65)])),
                         [[0], [-1, 2], [-1, 0], written("<A>")])


class NoFormat(unittest.TestCase):
    def test_both_rows_are_taken(self):
        for numbers, pool in (([], []), ([1, 0, 7], []), ([1], [1, 2, 3]), ([], [2]), ([3] * 100, [3] * 300)):
            told = ask(raw_render(numbers, pool), WRITE, parse("%d"), render([(1, 0, 7)]))
            self.assertEqual(told, [[-9], [-9], [0], written("7")])


if __name__ == "__main__":
    unittest.main()

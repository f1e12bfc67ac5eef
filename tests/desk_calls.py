"""Calls spelled plainly, and their answers one list each."""

import unittest

from checkedformats.desk import answers

WRITE = [2]
COUNT = [3]
ARGS = [4]


def as_bytes(text):
    return list(text.encode("latin-1"))


def parse(text):
    row = as_bytes(text)
    return [1, len(row)] + row


def type_of(number):
    return [5, number]


def directive(index):
    return [6, index]


def check(*types):
    return [7, len(types), *types]


def same(text):
    row = as_bytes(text)
    return [8, len(row)] + row


def render(arguments, pool=""):
    """The arguments are triples (type, length, value); the pool is a text."""
    numbers = [number for argument in arguments for number in argument]
    row = as_bytes(pool)
    return [9, len(numbers)] + numbers + [len(row)] + row


def written(text):
    row = as_bytes(text)
    return [0, len(row)] + row


def split_answers(told):
    """The answers call by call; an answer that is cut short is an error."""
    parts = []
    at = 0
    while at < len(told):
        size = told[at]
        part = told[at + 1:at + 1 + size]
        if size < 1 or len(part) != size:
            raise AssertionError(f"answers do not come out even: {told}")
        parts.append(part)
        at += 1 + size
    return parts


def ask(*calls):
    handed = []
    for call in calls:
        handed.extend(call)
    return split_answers(answers(handed))


def parsed(text):
    """What parse alone answers: [0], or [-1, place]."""
    return ask(parse(text))[0]


def types_of(text, highest=17):
    """The types of arguments 1 up to the highest that is asked for."""
    found = []
    numbers = list(range(1, highest + 1))
    # One list holds at most 16 calls.
    while numbers:
        told = ask(parse(text), *[type_of(number) for number in numbers[:15]])
        if told[0] != [0]:
            raise AssertionError(f"{text!r} was refused: {told[0]}")
        found.extend(answer[1] for answer in told[1:])
        numbers = numbers[15:]
    return found


def rendered(text, arguments, pool=""):
    """What render answers: the text, or the refusal as the list that it is."""
    told = ask(parse(text), render(arguments, pool))
    if told[0] != [0]:
        raise AssertionError(f"{text!r} was refused: {told[0]}")
    if told[1][0] < 0:
        return told[1]
    if told[1][1] != len(told[1]) - 2:
        raise AssertionError(f"the text's length is told wrong: {told[1]}")
    return bytes(told[1][2:]).decode("latin-1")


def show(text, *values):
    """What render answers to these values, whole numbers and texts, handed in by the types that the format takes."""
    pool = ""
    arguments = []
    for value, kind in zip(values, types_of(text)):
        if isinstance(value, str):
            arguments.append((kind, len(value), len(pool)))
            pool += value
        else:
            arguments.append((kind, 0, value % 2 ** 64))
    return rendered(text, arguments, pool)


class RenderCase(unittest.TestCase):
    def shows(self, *cases):
        """Each case: what render is to answer, the format, its values."""
        for expected, text, *values in cases:
            with self.subTest(text=text, values=values):
                self.assertEqual(show(text, *values), expected)

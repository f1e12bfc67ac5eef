"""Calls spelled plainly, and their answers one list each."""

from checkedformats.desk import answers

WRITE = [2]
COUNT = [3]
ARGS = [4]


def as_bytes(text):
    return list(text.encode("latin-1"))


def parse(text):
    row = as_bytes(text)
    return [1, len(row)] + row


def type_of(number):
    return [5, number]


def written(text):
    row = as_bytes(text)
    return [0, len(row)] + row


def split_answers(told):
    """The answers call by call; an answer that is cut short is an error."""
    parts = []
    at = 0
    while at < len(told):
        size = told[at]
        part = told[at + 1:at + 1 + size]
        if size < 1 or len(part) != size:
            raise AssertionError(f"answers do not come out even: {told}")
        parts.append(part)
        at += 1 + size
    return parts


def ask(*calls):
    handed = []
    for call in calls:
        handed.extend(call)
    return split_answers(answers(handed))


def parsed(text):
    """What parse alone answers: [0], or [-1, place]."""
    return ask(parse(text))[0]


def types_of(text, highest=17):
    """The types of arguments 1 up to the highest that is asked for."""
    found = []
    for number in range(1, highest + 1):
        told = ask(parse(text), type_of(number))
        if told[0] != [0]:
            raise AssertionError(f"{text!r} was refused: {told[0]}")
        found.append(told[1][1])
    return found

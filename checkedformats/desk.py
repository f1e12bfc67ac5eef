"""The desk: a list of calls on one new object goes in, the list of their answers comes out."""

from checkedformats.formats import read_format
from checkedformats.refusals import NoFormat, WrongFormat


class Desk:
    """What one list of calls works on: the format that was read last, if there is one."""

    def __init__(self):
        self.current = None

    def held(self):
        if self.current is None:
            raise NoFormat()
        return self.current


class CallReader:
    """A list of calls, taken number by number and row by row; the list itself stays as it is."""

    def __init__(self, numbers):
        self.numbers = numbers
        self.at = 0

    def at_end(self):
        return self.at >= len(self.numbers)

    def take(self):
        number = self.numbers[self.at]
        self.at += 1
        return number

    def take_row(self):
        size = self.take()
        row = self.numbers[self.at:self.at + size]
        self.at += size
        return row


def answer_parse(desk, reader):
    desk.current = read_format(reader.take_row())
    return [0]


def answer_write(desk, reader):
    row = desk.held().row
    return [0, len(row)] + row


def answer_count(desk, reader):
    return [0, len(desk.held().directives)]


def answer_highest(desk, reader):
    return [0, desk.held().highest_argument()]


def answer_kind(desk, reader):
    # The number is taken even if the call is refused: the next call begins behind it.
    argument = reader.take()
    return [0, desk.held().kind_of(argument)]


ANSWERERS = {1: answer_parse, 2: answer_write, 3: answer_count, 4: answer_highest, 5: answer_kind}


def answer_call(desk, reader):
    """Answer the next call, a refusal by its number."""
    answerer = ANSWERERS[reader.take()]
    try:
        return answerer(desk, reader)
    except NoFormat:
        return [-9]
    except WrongFormat as fault:
        return [-1, fault.place]


def answers(calls):
    """Answer each call in order: how many numbers are answered, and these."""
    desk = Desk()
    reader = CallReader(calls)
    told = []
    while not reader.at_end():
        answer = answer_call(desk, reader)
        told.append(len(answer))
        told.extend(answer)
    return told

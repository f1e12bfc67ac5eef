"""The desk: a list of calls on one new object goes in, the list of their answers comes out."""

from checkedformats.directives import own_kind
from checkedformats.formats import least_difference, read_format
from checkedformats.misuse import first_misuse
from checkedformats.refusals import NoDirective, NoFormat, WrongAmount, WrongArguments, WrongFormat
from checkedformats.rendering import render


class Desk:
    """What one list of calls works on: the format that was read last, if there is one."""

    def __init__(self):
        self.current = None

    def held(self):
        if self.current is None:
            raise NoFormat()
        return self.current


class CallReader:
    """A list of calls, taken number by number and row by row; the list itself stays as it is."""

    def __init__(self, numbers):
        self.numbers = numbers
        self.at = 0

    def at_end(self):
        return self.at >= len(self.numbers)

    def take(self):
        number = self.numbers[self.at]
        self.at += 1
        return number

    def take_row(self):
        size = self.take()
        row = self.numbers[self.at:self.at + size]
        self.at += size
        return row


def answer_parse(desk, reader):
    desk.current = read_format(reader.take_row())
    return [0]


def answer_write(desk, reader):
    row = desk.held().row
    return [0, len(row)] + row


def answer_count(desk, reader):
    return [0, len(desk.held().directives)]


def answer_highest(desk, reader):
    return [0, desk.held().highest_argument()]


def answer_kind(desk, reader):
    # Here and below, what is handed in is taken even if the call is refused: the next call begins behind it.
    argument = reader.take()
    return [0, desk.held().kind_of(argument)]


def answer_directive(desk, reader):
    index = reader.take()
    directive = desk.held().directive_at(index)
    taken = [directive.argument, directive.width.argument, directive.precision.argument]
    return [0, directive.place, directive.size] + taken + [own_kind(directive)]


def answer_check(desk, reader):
    kinds = reader.take_row()
    misuse = first_misuse(desk.held(), kinds)
    return [0, 0] if misuse is None else [0] + list(misuse)


def answer_same(desk, reader):
    row = reader.take_row()
    original = desk.held()
    return [0, least_difference(original, read_format(row))]


def answer_render(desk, reader):
    arguments = reader.take_row()
    pool = reader.take_row()
    text = render(desk.held(), arguments, pool)
    return [0, len(text)] + text


ANSWERERS = {
    1: answer_parse,
    2: answer_write,
    3: answer_count,
    4: answer_highest,
    5: answer_kind,
    6: answer_directive,
    7: answer_check,
    8: answer_same,
    9: answer_render,
}


def answer_call(desk, reader):
    """Answer the next call, a refusal by its number."""
    answerer = ANSWERERS[reader.take()]
    try:
        return answerer(desk, reader)
    except NoFormat:
        return [-9]
    except WrongFormat as fault:
        return [-1, fault.place]
    except WrongArguments:
        return [-1]
    except NoDirective:
        return [-2]
    except WrongAmount:
        return [-3]


def answers(calls):
    """Answer each call in order: how many numbers are answered, and these."""
    desk = Desk()
    reader = CallReader(calls)
    told = []
    while not reader.at_end():
        answer = answer_call(desk, reader)
        told.append(len(answer))
        told.extend(answer)
    return told

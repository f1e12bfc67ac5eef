"""Whole formats: reading them, and what they tell of their arguments."""

from checkedformats.directives import stars, taken_pairs
from checkedformats.refusals import NoDirective, WrongFormat
from checkedformats.rules import is_right
from checkedformats.scanning import HIGHEST_ARGUMENT, Scanner, scan_directive
from checkedformats.signs import PERCENT

MOST_DIRECTIVES = 32


class Format:
    """A format's bytes, its directives in order, and the kind of each argument that they take."""

    def __init__(self, row):
        self.row = list(row)
        self.directives = []
        self.kinds = {}

    def highest_argument(self):
        return max(list(self.kinds), default=0)

    def kind_of(self, argument):
        return self.kinds.get(argument, 0)

    def directive_at(self, index):
        if index >= len(self.directives):
            raise NoDirective()
        return self.directives[index]


def read_format(row):
    """The format that these bytes spell; WrongFormat tells its first wrong directive."""
    found = Format(row)
    at = 0
    while at < len(row):
        if row[at] != PERCENT:
            at += 1
        elif row[at + 1:at + 2] == [PERCENT]:
            at += 2
        else:
            directive = read_directive(row, at)
            add_directive(found, directive)
            at += directive.size
    return found


def read_directive(row, place):
    directive = scan_directive(Scanner(row, place))
    if not is_right(directive):
        raise WrongFormat(place)
    return directive


def add_directive(found, directive):
    if not fits_in(found, directive):
        raise WrongFormat(directive.place)
    if not directive.by_number:
        number_in_order(found, directive)
    for argument, kind in taken_pairs(directive):
        if argument > HIGHEST_ARGUMENT or found.kinds.get(argument, kind) != kind:
            raise WrongFormat(directive.place)
        found.kinds[argument] = kind
    found.directives.append(directive)


def fits_in(found, directive):
    """Whether there is room for the directive, and it names its arguments as those before it do."""
    if len(found.directives) == MOST_DIRECTIVES:
        return False
    return found.directives == [] or found.directives[0].by_number == directive.by_number


def number_in_order(found, directive):
    """Settle which arguments a directive by order takes: those next to the ones taken before."""
    argument = found.highest_argument()
    for amount in stars(directive):
        argument += 1
        amount.argument = argument
    directive.argument = argument + 1


def least_difference(one, other):
    """The least argument that two formats don't take alike, 0 if there is none."""
    for argument in range(1, HIGHEST_ARGUMENT + 1):
        if one.kind_of(argument) != other.kind_of(argument):
            return argument
    return 0

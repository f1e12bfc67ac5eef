"""The first misuse of a format, when the kinds of the arguments are given."""

from checkedformats.directives import taken_pairs

MISSING = 1
OTHER_KIND = 2
NOT_TAKEN = 3


def first_misuse(found, kinds):
    """Which misuse, the directive's index and the argument; None if there is no misuse."""
    for index, directive in enumerate(found.directives):
        for argument, kind in taken_pairs(directive):
            if argument > len(kinds):
                return (MISSING, index, argument)
            if kinds[argument - 1] != kind:
                return (OTHER_KIND, index, argument)
    return first_not_taken(found, kinds)


def first_not_taken(found, kinds):
    for argument in range(1, len(kinds) + 1):
        if found.kind_of(argument) == 0:
            # No directive can be told here, and -1 stands in its place.
            return (NOT_TAKEN, -1, argument)
    return None

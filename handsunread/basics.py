"""What all files rest on: lists made tuples, FRACTIONS, ROWS as whole numbers over one bottom."""

from math import gcd, lcm

NONE = (0, 1)
ONE = (1, 1)


def fixed(value):
    """The value with a tuple in the place of each list, at any depth."""
    if isinstance(value, (list, tuple)):
        return tuple([fixed(part) for part in value])
    return value


def is_number(thing):
    return isinstance(thing, int) and not isinstance(thing, bool)


def is_fraction(thing):
    if not isinstance(thing, tuple) or len(thing) != 2:
        return False
    if not is_number(thing[0]) or not is_number(thing[1]):
        return False
    return thing[1] >= 1 and gcd(thing[0], thing[1]) == 1


def is_ascending(parts):
    """Whether each part is less than the next one; so none stands there twice."""
    return all([one < other for one, other in zip(parts, parts[1:])])


def is_places(thing, many):
    """Whether thing is a set of numbers from 0 to below many."""
    if not isinstance(thing, tuple) or not all([is_number(part) for part in thing]):
        return False
    return is_ascending(thing) and all([0 <= part < many for part in thing])


def all_places(many):
    """All sets of numbers from 0 to below many, ascending."""
    found = [()]
    for number in range(many):
        found = found + [places + (number,) for places in found]
    return sorted(found)


def is_row(thing, long):
    """Whether thing is a ROW of so many FRACTIONS."""
    if not isinstance(thing, tuple) or len(thing) != long:
        return False
    return all([is_fraction(part) for part in thing])


def fraction(top, bottom):
    """The FRACTION for top divided by bottom, which is not 0."""
    share = gcd(top, bottom)
    if bottom < 0:
        share = -share
    return (top // share, bottom // share)


def plus(one, other):
    return fraction(one[0] * other[1] + other[0] * one[1], one[1] * other[1])


def times(one, other):
    return fraction(one[0] * other[0], one[1] * other[1])


def less(one, other):
    """What one is more than other: other taken off one."""
    return fraction(one[0] * other[1] - other[0] * one[1], one[1] * other[1])


def share_of(one, other):
    """one divided by other, which is not 0."""
    return fraction(one[0] * other[1], one[1] * other[0])


def none_row(long):
    return (NONE,) * long


def unit_row(long, place):
    """The ROW with 1 at this place and 0 at all others."""
    return (NONE,) * place + (ONE,) + (NONE,) * (long - place - 1)


def cleared(row):
    """The tops of a ROW over its least common bottom, a list, and this bottom."""
    bottom = 1
    for part in row:
        bottom = lcm(bottom, part[1])
    return [part[0] * (bottom // part[1]) for part in row], bottom


def dot(one, other):
    """Two lists of whole numbers, place times place, added up."""
    return sum([first * second for first, second in zip(one, other)])


def cored(numbers):
    """Whole numbers divided by the greatest number that divides them all."""
    core = 0
    for number in numbers:
        core = gcd(core, number)
        if core == 1:
            return numbers
    if core == 0:
        return numbers
    return [number // core for number in numbers]

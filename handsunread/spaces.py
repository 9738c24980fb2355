"""SPACES: all sums of ROWS, told by one reduced TABLE."""

from handsunread.basics import NONE, ONE, fixed, is_row
from handsunread.errors import Unfit
from handsunread.tables import flipped, is_table, lead, leads, off_row, parts_in, reduced, rest_off, row_applied
from handsunread.tables import row_read, same_table


def is_space(thing, long):
    if not isinstance(thing, tuple) or not is_table(thing, len(thing), long):
        return False
    return reduced(thing) == thing


def span(rows):
    return reduced(fixed(rows))


def whole_space(long):
    return same_table(long)


def is_in(space, row):
    """Whether a ROW is in a SPACE."""
    return not any([part[0] for part in rest_off(space, row)])


def within(space, other):
    space, other = fixed(space), fixed(other)
    return all([is_in(other, row) for row in space])


def sum_space(space, other):
    return reduced(fixed(space) + fixed(other))


def meet(space, other):
    space, other = fixed(space), fixed(other)
    if not space or not other:
        return ()
    long = len(space[0])
    return zeros_of(zeros_of(space, long) + zeros_of(other, long), long)


def shares(space, row):
    space, row = fixed(space), fixed(row)
    if not is_in(space, row):
        return None
    return parts_in(space, row)


def off_space(space, row):
    return off_row(fixed(space), fixed(row))


def is_off_space(space, row, thing):
    space, row = fixed(space), fixed(row)
    if not is_row(thing, len(row)) or row_applied((thing,), row) != (ONE,):
        return False
    return not any([part[0] for part in row_applied(space, thing)])


def zeros_of(rows, long):
    space = reduced(fixed(rows))
    own = leads(space)
    found = []
    for column in range(long):
        if column not in own:
            # 1 in this column, and in the leading ones' columns what takes it back.
            cells = [NONE] * long
            cells[column] = ONE
            for row in space:
                top, bottom = row[column]
                cells[lead(row)] = (-top, bottom)
            found.append(tuple(cells))
    return reduced(found)


def led(table, space):
    table, space = fixed(table), fixed(space)
    return reduced([row_applied(table, row) for row in space])


def led_into(table, space):
    table, space = fixed(table), fixed(space)
    long = len(table)
    return zeros_of([row_read(row, table) for row in zeros_of(space, long)], long)


def is_kept(table, space):
    table, space = fixed(table), fixed(space)
    return all([is_in(space, row_applied(table, row)) for row in space])


def kept_with(table, rows):
    table, rows = fixed(table), fixed(rows)
    space = reduced(rows)
    fresh = space
    while fresh:
        # What is not in the SPACE yet is all that can lead further.
        coming = [row_applied(table, row) for row in fresh]
        fresh = reduced([rest_off(space, row) for row in coming])
        space = reduced(space + fresh)
    return space


def kept_in(table, space):
    table, space = fixed(table), fixed(space)
    long = len(table)
    # What shows 0 of the greatest is kept by the turned table, and the least such.
    return zeros_of(kept_with(flipped(table), zeros_of(space, long)), long)


def rest_of(outer, inner):
    outer, inner = fixed(outer), fixed(inner)
    if not within(inner, outer):
        raise Unfit()
    own = leads(inner)
    return tuple([row for row in outer if lead(row) not in own])


def over(table, outer, inner):
    table, outer, inner = fixed(table), fixed(outer), fixed(inner)
    rest = rest_of(outer, inner)
    if not is_kept(table, outer) or not is_kept(table, inner):
        raise Unfit()
    places = leads(rest)
    columns = []
    for row in rest:
        # Once the ROWS of inner are taken off, the leading ones of rest tell the others.
        left = rest_off(inner, row_applied(table, row))
        columns.append(tuple([left[place] for place in places]))
    return flipped(columns)

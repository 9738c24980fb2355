"""TABLES of FRACTIONS: sums, products, ranks, determinants, and what is solved by them."""

from math import gcd

from handsunread.basics import NONE, ONE, cleared, cored, dot, fixed, fraction, is_row, less, plus, times
from handsunread.basics import share_of, unit_row
from handsunread.errors import NoNumber, Unfit


def is_table(thing, many, long):
    if not isinstance(thing, tuple) or len(thing) != many:
        return False
    return all([is_row(row, long) for row in thing])


def same_table(many):
    return tuple([unit_row(many, place) for place in range(many)])


def row_sum(one, other):
    """Two ROWS of one length, place by place."""
    return tuple([plus(first, second) for first, second in zip(one, other)])


def row_less(one, other):
    """What is left of the ROW one when other is taken off it, place by place."""
    return tuple([less(first, second) for first, second in zip(one, other)])


def row_times(row, much):
    return tuple([times(part, much) for part in row])


def sum_table(one, other):
    one, other = fixed(one), fixed(other)
    return tuple([row_sum(first, second) for first, second in zip(one, other)])


def times_much(table, much):
    table, much = fixed(table), fixed(much)
    return tuple([row_times(row, much) for row in table])


# The next four do what turned, applied, read_by and product do, of what is tuples throughout already.


def flipped(table):
    return tuple([tuple(column) for column in zip(*table)])


def row_applied(table, row):
    others, low = cleared(row)
    found = []
    for line in table:
        tops, bottom = cleared(line)
        found.append(fraction(dot(tops, others), bottom * low))
    return tuple(found)


def shows_some(rows, cells):
    """Whether some of these ROWS shows other than 0 of the cells."""
    others = cleared(cells)[0]
    return any([dot(cleared(row)[0], others) for row in rows])


def row_read(row, table):
    return row_applied(flipped(table), row)


def table_product(one, other):
    # Each ROW and each column is brought to one bottom once, not once for each place.
    rows = [cleared(row) for row in one]
    columns = [cleared(column) for column in zip(*other)]
    return tuple([
        tuple([fraction(dot(tops, others), bottom * low) for others, low in columns])
        for tops, bottom in rows
    ])


def turned(table):
    return flipped(fixed(table))


def shown(row, other):
    return row_applied((fixed(row),), fixed(other))[0]


def applied(table, row):
    return row_applied(fixed(table), fixed(row))


def read_by(row, table):
    return row_read(fixed(row), fixed(table))


def product(one, other):
    return table_product(fixed(one), fixed(other))


def power(table, many):
    base = fixed(table)
    result = same_table(len(base))
    left = many
    while left:
        if left % 2:
            result = table_product(result, base)
        left = left // 2
        if left:
            base = table_product(base, base)
    return result


def first_place(numbers):
    """The place of the first number that is not 0; how many there are if all are."""
    for place, number in enumerate(numbers):
        if number:
            return place
    return len(numbers)


def without(numbers, pivot, column):
    """A multiple of the whole numbers less one of pivot, such that 0 stands in the column."""
    much = numbers[column]
    if not much:
        return numbers
    share = gcd(much, pivot[column])
    mine, others = pivot[column] // share, much // share
    return cored([mine * first - others * second for first, second in zip(numbers, pivot)])


def reduced(rows):
    """The SPACE [3] of all sums of these ROWS; in whole numbers, which stay the shortest."""
    work = [cored(cleared(row)[0]) for row in rows]
    work = [numbers for numbers in work if any(numbers)]
    done = []
    while work:
        places = [first_place(numbers) for numbers in work]
        column = min(places)
        chosen = places.index(column)
        pivot = work[chosen]
        done = [without(numbers, pivot, column) for numbers in done] + [pivot]
        left = work[:chosen] + work[chosen + 1:]
        left = [without(numbers, pivot, column) for numbers in left]
        work = [numbers for numbers in left if any(numbers)]
    return tuple([led_by_one(numbers) for numbers in done])


def led_by_one(numbers):
    """The ROW of whole numbers divided by the first of them that is not 0."""
    first = numbers[first_place(numbers)]
    return tuple([fraction(number, first) for number in numbers])


def lead(row):
    """The column of the first FRACTION that is not 0 in a ROW that has one."""
    return first_place([part[0] for part in row])


def leads(space):
    """The columns of the leading ones of a SPACE."""
    return tuple([lead(row) for row in space])


def rank(table):
    return len(reduced(fixed(table)))


def leading(table):
    return leads(reduced(fixed(table)))


def whole_det(rows):
    """The determinant of lists of whole numbers; each division leaves no rest (Bareiss)."""
    sign, last = 1, 1
    work = rows
    while work:
        place = first_place([row[0] for row in work])
        if place == len(work):
            return 0
        # The pivot moves up past so many rows, each of which turns the sign.
        if place % 2:
            sign = -sign
        pivot = work[place]
        left = work[:place] + work[place + 1:]
        work = [below(row, pivot, last) for row in left]
        last = pivot[0]
    return sign * last


def below(row, pivot, last):
    """What a row leaves behind the pivot's first column is cleared."""
    head, mine = pivot[0], row[0]
    return [(head * first - mine * second) // last for first, second in zip(row[1:], pivot[1:])]


def det(table):
    table = fixed(table)
    rows = [cleared(row) for row in table]
    bottom = 1
    for _, low in rows:
        bottom = bottom * low
    return fraction(whole_det([tops for tops, _ in rows]), bottom)


def check_places(numbers, many):
    """Raises NoNumber for the first of the numbers that is no place below many."""
    for number in numbers:
        if not 0 <= number < many:
            raise NoNumber(number)


def crossing(table, rows, columns):
    """What stands where these rows and columns cross."""
    return tuple([tuple([table[row][column] for column in columns]) for row in rows])


def minor(table, rows, columns):
    table, rows, columns = fixed(table), fixed(rows), fixed(columns)
    check_places(rows, len(table))
    check_places(columns, len(table[0]))
    return det(crossing(table, rows, columns))


def inverse(table):
    table = fixed(table)
    many = len(table)
    space = reduced([row + unit for row, unit in zip(table, same_table(many))])
    if leads(space) != tuple(range(many)):
        raise Unfit()
    return tuple([row[many:] for row in space])


def solved(table, row):
    table, row = fixed(table), fixed(row)
    long = len(table[0])
    space = reduced([line + (part,) for line, part in zip(table, row)])
    cells = [NONE] * long
    for line in space:
        place = lead(line)
        if place == long:
            return None
        cells[place] = line[long]
    return tuple(cells)


def is_solved(table, row, thing):
    table, row = fixed(table), fixed(row)
    return is_row(thing, len(table[0])) and row_applied(table, thing) == row


def parts_in(space, row):
    """How many times each ROW of the SPACE is taken to come as near to row as it can."""
    # In a SPACE each leading one stands alone in its column.
    return tuple([row[place] for place in leads(space)])


def rest_off(space, row):
    """What is left of row when all that parts_in tells is taken off; all 0 if row is in the SPACE."""
    parts = parts_in(space, row)
    if not parts:
        return row
    return row_less(row, row_read(parts, space))


def off_row(space, row):
    """A ROW that shows 0 of each ROW of the SPACE and 1 of row; None if row is in it."""
    rest = rest_off(space, row)
    place = lead(rest)
    if place == len(row):
        return None
    marks = list(unit_row(len(row), place))
    for line in space:
        marks[lead(line)] = less(NONE, line[place])
    return row_times(marks, share_of(ONE, rest[place]))


def against(table, row):
    table, row = fixed(table), fixed(row)
    return off_row(reduced(flipped(table)), row)


def is_against(table, row, thing):
    table, row = fixed(table), fixed(row)
    if not is_row(thing, len(table)):
        return False
    return row_applied((thing,), row) == (ONE,) and not any([part[0] for part in row_read(thing, table)])

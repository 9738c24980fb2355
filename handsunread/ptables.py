"""PTABLES: tables of POLYS, their minors, and the STEPS that they are brought to."""

from itertools import combinations
from math import gcd

from handsunread.basics import ONE, cleared, fixed, fraction, share_of
from handsunread.errors import Unfit
from handsunread.polys import ONE_POLY, divided, divides, is_poly, monic, pair_common, pair_product, pair_sum
from handsunread.polys import through, trimmed, value_at
from handsunread.tables import check_places, crossing, flipped, rank, row_times, whole_det


def is_ptable(thing):
    if not isinstance(thing, tuple) or not thing:
        return False
    if not all([isinstance(row, tuple) for row in thing]) or not thing[0]:
        return False
    if not all([len(row) == len(thing[0]) for row in thing]):
        return False
    return all([is_poly(poly) for row in thing for poly in row])


def ptimes(one, other):
    one, other = fixed(one), fixed(other)
    if len(one[0]) != len(other):
        raise Unfit()
    columns = flipped(other)
    return tuple([tuple([poly_shown(row, column) for column in columns]) for row in one])


def poly_shown(row, other):
    """Two ROWS of POLYS, place times place, added up."""
    found = ()
    for first, second in zip(row, other):
        found = pair_sum(found, pair_product(first, second))
    return found


def pdet(ptable):
    ptable = fixed(ptable)
    if len(ptable) != len(ptable[0]):
        raise Unfit()
    return square_det(ptable)


def square_det(ptable):
    """The determinant of ROWS of POLYS, as many as columns; from what it comes to at numbers enough."""
    rows, bottom = [], 1
    for row in ptable:
        tops, low = whole_polys(row)
        rows.append(tops)
        bottom = bottom * low
    values = []
    for number in range(most_degree(rows) + 1):
        values.append(whole_det([[whole_at(parts, number) for parts in line] for line in rows]))
    return trimmed([fraction(number, bottom) for number in through(values)])


def whole_polys(polys):
    """The tops of POLYS over their least common bottom, and this bottom."""
    tops, bottom = cleared([part for poly in polys for part in poly])
    found, begin = [], 0
    for poly in polys:
        found.append(tops[begin:begin + len(poly)])
        begin += len(poly)
    return found, bottom


def whole_at(tops, number):
    found = 0
    for top in reversed(tops):
        found = found * number + top
    return found


def most_degree(rows):
    """No minor of these rows of POLYS has a greater degree."""
    by_rows = sum([max([0] + [len(poly) - 1 for poly in row]) for row in rows])
    by_columns = sum([max([0] + [len(poly) - 1 for poly in column]) for column in zip(*rows)])
    return min(by_rows, by_columns)


def pminor(ptable, rows, columns):
    ptable, rows, columns = fixed(ptable), fixed(rows), fixed(columns)
    check_places(rows, len(ptable))
    check_places(columns, len(ptable[0]))
    if len(rows) != len(columns):
        raise Unfit()
    return square_det(crossing(ptable, rows, columns))


def ptable_at(ptable, number):
    ptable, number = fixed(ptable), fixed(number)
    return tuple([tuple([value_at(poly, number) for poly in row]) for row in ptable])


def prank(ptable):
    ptable = fixed(ptable)
    most = min(len(ptable), len(ptable[0]))
    found = 0
    # A minor that is not () is 0 at no more numbers than its degree tells.
    for number in range(most_degree(ptable) + 1):
        found = max(found, rank(ptable_at(ptable, (number, 1))))
        if found == most:
            return found
    return found


def divisor_of_order(ptable, order):
    ptable = fixed(ptable)
    if order > len(ptable) or order > len(ptable[0]):
        raise Unfit()
    block, many = ptable, 0
    pivot = plain_pivot(block)
    while pivot is not None:
        block = without_pivot(block, pivot[0], pivot[1])
        many += 1
        pivot = plain_pivot(block)
    # With many numbers stripped off a minor of the order has as many ROWS less.
    if many >= order:
        return ONE_POLY
    return common_minor(full_part(block), order - many)


def plain_pivot(block):
    """The first place with a number that is not 0, all else in its row, or in its column, being numbers, too."""
    plain_columns = [all([len(part) <= 1 for part in line]) for line in zip(*block)]
    for place, row in enumerate(block):
        plain = all([len(poly) <= 1 for poly in row])
        for column, poly in enumerate(row):
            if len(poly) == 1 and (plain or plain_columns[column]):
                return place, column
    return None


def without_pivot(block, row, column):
    """What is left of the block when the number at this place has cleared its row and its column."""
    much = share_of((-1, 1), block[row][column][0])
    pivot = block[row][:column] + block[row][column + 1:]
    found = []
    for line in block[:row] + block[row + 1:]:
        left = line[:column] + line[column + 1:]
        taken = row_times(line[column], much)
        found.append(tuple([pair_sum(own, pair_product(taken, poly)) for own, poly in zip(left, pivot)]))
    return tuple(found)


def full_part(block):
    """The block without rows and columns of () alone, with which each minor is ()."""
    rows = [row for row in block if any(row)]
    return flipped([column for column in zip(*rows) if any(column)])


def common_minor(block, many):
    """The greatest common divisor of all minors with so many rows, from 1 on; () if there are none."""
    if not block:
        return ()
    found = ()
    for rows in combinations(range(len(block)), many):
        for columns in combinations(range(len(block[0])), many):
            found = pair_common(found, square_det(crossing(block, rows, columns)))
            if len(found) == 1:
                return ONE_POLY
    return monic(found)


def brought(ptable):
    ptable = fixed(ptable)
    many, long = len(ptable), len(ptable[0])
    board = with_turners(ptable)
    corner = 0
    while corner < min(many, long):
        place = least_place(board, corner, many, long)
        if place is None:
            break
        board = to_corner(board, corner, place[0], place[1])
        column = [board[row][corner] for row in range(corner + 1, many)]
        if any(column):
            board = cut_down(board, corner, many)
        elif any(board[corner][corner + 1:long]):
            board = cut_across(board, corner, long)
        else:
            beyond = undivided_row(board, corner, many, long)
            if beyond is None:
                board[corner] = made_monic(board[corner], board[corner][corner])
                corner += 1
            else:
                # The rest that the corner leaves of it is of a lesser degree, and becomes the corner.
                board[corner] = [pair_sum(own, poly) for own, poly in zip(board[corner], board[beyond])]
                board = cut_across(board, corner, long)
    left = tuple([tuple(row[long:]) for row in board[:many]])
    steps = tuple([tuple(row[:long]) for row in board[:many]])
    right = tuple([tuple(row[:long]) for row in board[many:]])
    return left, steps, right


def with_turners(ptable):
    """The PTABLE, to the right of it and below it what has 1 on the diagonal.

    What is done to rows is done to what stands to the right, too, what is done to columns to what
    stands below: so these become left and right.
    """
    many, long = len(ptable), len(ptable[0])
    rows = [list(row + unit_polys(many, place)) for place, row in enumerate(ptable)]
    return rows + [list(unit_polys(long, place) + ((),) * many) for place in range(long)]


def unit_polys(long, place):
    return ((),) * place + (ONE_POLY,) + ((),) * (long - place - 1)


def least_place(board, corner, many, long):
    """The row and column, from the corner on, of a POLY of the least degree but (); None if all are ()."""
    places = [
        (len(board[row][column]), figures(board[row][column]), row, column)
        for row in range(corner, many) for column in range(corner, long) if board[row][column]
    ]
    if not places:
        return None
    return min(places)[2:]


def figures(poly):
    """How long the numbers of a POLY are together: with the shortest as corner all stay short."""
    return sum([abs(top).bit_length() + bottom.bit_length() for top, bottom in poly])


def to_corner(board, corner, row, column):
    """The board with this row exchanged for the corner's, this column for the corner's."""
    rows = list(board)
    rows[corner], rows[row] = rows[row], rows[corner]
    found = []
    for line in rows:
        cells = list(line)
        cells[corner], cells[column] = cells[column], cells[corner]
        found.append(cells)
    return found


def cut_down(board, corner, many):
    """The board with nothing but rests of division by the corner below it."""
    pivot = board[corner]
    found = []
    for place, row in enumerate(board):
        if corner < place < many and row[corner]:
            much = row_times(divided(row[corner], pivot[corner])[0], (-1, 1))
            found.append(shortened([pair_sum(own, pair_product(much, poly)) for own, poly in zip(row, pivot)]))
        else:
            found.append(row)
    return found


def cut_across(board, corner, long):
    """The same beside the corner."""
    columns = cut_down([list(column) for column in zip(*board)], corner, long)
    return [list(row) for row in zip(*columns)]


def shortened(row):
    """A row of POLYS divided by a number such that its own are whole and have none in common."""
    tops, bottom = cleared([part for poly in row for part in poly])
    core = 0
    for top in tops:
        core = gcd(core, top)
    if core == 0:
        return row
    return [row_times(poly, fraction(bottom, core)) for poly in row]


def made_monic(row, poly):
    """The row of POLYS divided by the last FRACTION of poly."""
    much = share_of(ONE, poly[-1])
    return [row_times(own, much) for own in row]


def undivided_row(board, corner, many, long):
    """The first row below the corner with a POLY that the corner does not divide; None if there is none."""
    for row in range(corner + 1, many):
        if not all([divides(board[corner][corner], poly) for poly in board[row][corner + 1:long]]):
            return row
    return None


def is_brought(ptable, thing):
    ptable = fixed(ptable)
    if not isinstance(thing, tuple) or len(thing) != 3 or not all([is_ptable(part) for part in thing]):
        return False
    left, steps, right = thing
    many, long = len(ptable), len(ptable[0])
    if len(steps) != many or len(steps[0]) != long or not is_steps(steps):
        return False
    if not is_turnable(left, many) or not is_turnable(right, long):
        return False
    return ptimes(ptimes(left, ptable), right) == steps


def is_turnable(ptable, many):
    """Whether it has so many ROWS and columns, and a determinant of degree 0."""
    return len(ptable) == many and len(ptable[0]) == many and len(square_det(ptable)) == 1


def is_steps(ptable):
    last = ONE_POLY
    for row, polys in enumerate(ptable):
        for column, poly in enumerate(polys):
            if row != column and poly:
                return False
        if row < len(polys):
            # () divides () alone, so behind the first () there are no others.
            if polys[row] != monic(polys[row]) or not divides(last, polys[row]):
                return False
            last = polys[row]
    return True

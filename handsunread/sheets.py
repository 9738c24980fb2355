"""SHEETS: tables in which some FRACTIONS are known to nobody, and the greatest rank of their FILLINGS."""

from handsunread.basics import NONE, ONE, all_places, fixed, is_fraction, is_places, less, share_of, unit_row
from handsunread.errors import Unfit
from handsunread.tables import check_places, crossing, det, flipped, is_table, rank


def is_sheet(thing):
    if not isinstance(thing, tuple) or not thing:
        return False
    if not all([isinstance(row, tuple) for row in thing]) or not thing[0]:
        return False
    if not all([len(row) == len(thing[0]) for row in thing]):
        return False
    return all([part is None or is_fraction(part) for row in thing for part in row])


def unknown_places(sheet):
    """The pairs (row, column) of each None, row by row."""
    return [(place, column) for place, row in enumerate(sheet) for column, part in enumerate(row) if part is None]


def with_part(sheet, place, part):
    """The SHEET with this part at the place (row, column)."""
    row, column = place
    line = sheet[row][:column] + (part,) + sheet[row][column + 1:]
    return sheet[:row] + (line,) + sheet[row + 1:]


def filled(sheet, numbers):
    sheet, numbers = fixed(sheet), fixed(numbers)
    places = unknown_places(sheet)
    if len(numbers) != len(places):
        raise Unfit()
    for place, number in zip(places, numbers):
        sheet = with_part(sheet, place, number)
    return sheet


def is_known(sheet, rows, columns):
    """Whether no None stands where these cross."""
    return all([sheet[row][column] is not None for row in rows for column in columns])


def window_count(sheet, rows, columns):
    """The COUNT of a WINDOW."""
    beside = len(sheet) - len(rows) + len(sheet[0]) - len(columns)
    return rank(crossing(sheet, rows, columns)) + beside


def count_of(sheet, rows, columns):
    sheet, rows, columns = fixed(sheet), fixed(rows), fixed(columns)
    check_places(rows, len(sheet))
    check_places(columns, len(sheet[0]))
    if not is_known(sheet, rows, columns):
        raise Unfit()
    return window_count(sheet, rows, columns)


def known_columns(sheet, rows):
    """The set of the columns without a None in these rows."""
    return tuple([column for column in range(len(sheet[0])) if is_known(sheet, rows, (column,))])


def tight_rows(sheet):
    """The pair of the least COUNT of the WINDOWS, and of the list of the sets of rows of tight ones."""
    counts = {}
    for rows in all_places(len(sheet)):
        # A column more takes one off the COUNT and gives the rank one at most: all that are known may be there.
        counts[rows] = window_count(sheet, rows, known_columns(sheet, rows))
    least = min([counts[rows] for rows in counts])
    return least, [rows for rows in counts if counts[rows] == least]


def greatest_rank(sheet):
    return most_rank(fixed(sheet))


def most_rank(sheet):
    """The greatest rank of the FILLINGS, also if there are no rows or no columns."""
    if not sheet:
        return 0
    return tight_rows(sheet)[0]


def tight_windows(sheet):
    sheet = fixed(sheet)
    about = flipped(sheet)
    rows, columns = in_all(tight_rows(sheet)[1]), in_all(tight_rows(about)[1])
    return (rows, known_columns(sheet, rows)), (known_columns(about, columns), columns)


def in_all(sets):
    """The set of what is in all of these sets, one at least."""
    return tuple([part for part in sets[0] if all([part in places for places in sets])])


def best_filling(sheet):
    """A FILLING by 0 and 1 of the greatest rank."""
    most = most_rank(sheet)
    for place in unknown_places(sheet):
        lesser = with_part(sheet, place, NONE)
        # 0 or 1 keeps the greatest rank, whichever it is.
        if most_rank(lesser) == most:
            sheet = lesser
        else:
            sheet = with_part(sheet, place, ONE)
    return sheet


def rank_paper(sheet, number):
    sheet = fixed(sheet)
    if most_rank(sheet) >= number:
        return "filling", best_filling(sheet)
    return "window", tight_windows(sheet)[0]


def is_rank_paper(sheet, number, thing):
    sheet = fixed(sheet)
    if not isinstance(thing, tuple) or len(thing) != 2:
        return False
    word, shown = thing
    if word == "filling":
        return is_filling(sheet, shown) and rank(shown) >= number
    if word == "window":
        return is_window(sheet, shown) and window_count(sheet, shown[0], shown[1]) < number
    return False


def is_filling(sheet, thing):
    """Whether thing is a FILLING of the SHEET."""
    if not is_table(thing, len(sheet), len(sheet[0])):
        return False
    return all([
        part is None or part == told for row, line in zip(sheet, thing) for part, told in zip(row, line)
    ])


def is_window(sheet, thing):
    """Whether thing is a WINDOW of the SHEET."""
    if not isinstance(thing, tuple) or len(thing) != 2:
        return False
    if not is_places(thing[0], len(sheet)) or not is_places(thing[1], len(sheet[0])):
        return False
    return is_known(sheet, thing[0], thing[1])


def needed(sheet):
    sheet = fixed(sheet)
    most = most_rank(sheet)
    places = [place for place in unknown_places(sheet) if most_rank(with_part(sheet, place, NONE)) < most]
    return needed_rows(sheet, most), needed_rows(flipped(sheet), most), tuple(places)


def needed_rows(sheet, most):
    """The set of the rows without which the greatest rank is less than this."""
    return tuple([row for row in range(len(sheet)) if most_rank(sheet[:row] + sheet[row + 1:]) < most])


def low_filling(sheet):
    sheet = fixed(sheet)
    many = len(sheet)
    if many != len(sheet[0]):
        raise Unfit()
    if most_rank(sheet) < many:
        return filled(sheet, (NONE,) * len(unknown_places(sheet)))
    for place in unknown_places(sheet):
        # The determinant hangs on what stands there exactly if the minor beside it is not always 0.
        if most_rank(alone(sheet, place)) == many:
            return lowered(sheet, place)
    return None


def alone(sheet, place):
    """The SHEET with 1 at this place and 0 at all others of its row and of its column."""
    row, column = place
    found = [line[:column] + (NONE,) + line[column + 1:] for line in sheet]
    found[row] = unit_row(len(sheet), column)
    return tuple(found)


def lowered(sheet, place):
    """A FILLING of the determinant 0, if the determinant hangs on what stands at the place."""
    full = best_filling(alone(sheet, place))
    for row, column in unknown_places(sheet):
        sheet = with_part(sheet, (row, column), full[row][column])
    # With each 1 more at the place the determinant is as much more, and that is not 0.
    none, one = det(with_part(sheet, place, NONE)), det(with_part(sheet, place, ONE))
    return with_part(sheet, place, share_of(none, less(none, one)))

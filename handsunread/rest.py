"""Coming to rest: what dies out by RULES, by STEADY and by CLOCKS, and what is held by steadiness alone."""

from handsunread.basics import ONE, cleared, cored, dot, fixed, fraction
from handsunread.errors import Unfit
from handsunread.memory import steady_whole
from handsunread.plants import all_rules, whole
from handsunread.polys import have_common, table_poly, without_factors
from handsunread.sight import sight
from handsunread.staying import stay
from handsunread.tables import same_table, table_product


def schur_row(poly):
    numbers = cleared(fixed(poly))[0]
    found = []
    while len(numbers) > 1:
        first, last = numbers[0], numbers[-1]
        found.append(fraction(first, last))
        if abs(first) >= abs(last):
            break
        left = [last * number - first * other for number, other in zip(numbers, numbers[::-1])]
        # Divided by a number all places of the row stay what they are.
        numbers = cored(left[1:])
    return tuple(found)


def dies_out(poly):
    row = schur_row(poly)
    return len(row) == len(poly) - 1 and all([abs(top) < bottom for top, bottom in row])


def table_dies(table):
    return dies_out(table_poly(table))


def whole_rows(table):
    """The tops of a TABLE, ROW by ROW, over one bottom, and this bottom."""
    tops, bottom = cleared([part for row in table for part in row])
    long = len(table)
    return [tops[place:place + long] for place in range(0, len(tops), long)], bottom


def whole_product(one, other):
    columns = [list(column) for column in zip(*other)]
    return [[dot(row, column) for column in columns] for row in one]


def all_below(rows, bottom):
    """Whether in each row the sizes come to less than the bottom."""
    return all([sum([abs(number) for number in row]) < bottom for row in rows])


def calm_after(table, many):
    table = fixed(table)
    # Of one that does not die out no power is calm, and its powers can become very great.
    if not table_dies(table):
        return None
    rows, bottom = whole_rows(table)
    now, low = rows, bottom
    for tick in range(1, many + 1):
        if all_below(now, low):
            return tick
        now, low = whole_product(rows, now), low * bottom
    return None


def is_calm(table, many):
    rows, bottom = whole_rows(fixed(table))
    now, low = whole_power(rows, bottom, many)
    return all_below(now, low)


def whole_power(rows, bottom, many):
    """The rows and the bottom of the power, from 1 on; by half of it twice, as the numbers become great."""
    if many == 1:
        return rows, bottom
    half, low = whole_power(rows, bottom, many // 2)
    found, low = whole_product(half, half), low * low
    if many % 2:
        found, low = whole_product(rows, found), low * bottom
    return found, low


def rests(plant, rules):
    return table_dies(whole(plant, rules))


def steady_rests(plant, steady):
    return table_dies(steady_whole(plant, steady))


def first_rules(plant):
    plant = fixed(plant)
    for rules in all_rules(plant):
        if rests(plant, rules):
            return rules
    return None


def never_rests(plant):
    return not dies_out(stay(plant))


def surely_restless(plant):
    return not dies_out(sight(plant))


def held_alone(plant):
    plant = fixed(plant)
    return without_factors(stay(plant), sight(plant))


def is_held_alone(plant, tone):
    return have_common(held_alone(plant), fixed(tone))


def powered(tone, many):
    tops, bottom = cleared(fixed(tone))
    # With its zeros taken bottom times it is whole; the place of the highest power is left out.
    parts, scale = [], 1
    for top in tops[-2::-1]:
        parts.append(top * scale)
        scale = scale * bottom
    sums = sums_of_powers(parts, many * len(parts))
    step = 1
    for _ in range(many):
        step = step * bottom
    found, scale = [ONE], 1
    for part in parts_of_sums(sums[many - 1::many]):
        scale = scale * step
        found.append(fraction(part, scale))
    return tuple(found[::-1])


# The next two go by the sums of Newton: parts are the places of a monic POLY of whole numbers, highest power first.


def sums_of_powers(parts, many):
    """The sums of the powers 1, 2 and so on of all zeros, so many."""
    found = []
    for place in range(many):
        total = dot(parts, found[::-1])
        if place < len(parts):
            total = total + (place + 1) * parts[place]
        found.append(-total)
    return found


def parts_of_sums(sums):
    """The parts of the POLY whose zeros have these sums of powers, as many as there are zeros."""
    found = []
    for place, total in enumerate(sums):
        # The zeros are those of whole parts, so the division leaves no rest.
        found.append(-(total + dot(found, sums[:place][::-1])) // (place + 1))
    return found


def round_of(plant, clock):
    plant, clock = fixed(plant), fixed(clock)
    if not clock:
        raise Unfit()
    found = same_table(len(plant[0]))
    for rules in clock:
        found = table_product(whole(plant, rules), found)
    return found


def clock_moves(plant, clock, tone):
    poly = table_poly(round_of(plant, clock))
    return not have_common(powered(tone, len(clock)), poly)


def first_clock(plant, tone):
    plant = fixed(plant)
    some = all_rules(plant)
    aim = powered(tone, 2)
    for first in some:
        for second in some:
            if not have_common(aim, table_poly(round_of(plant, (first, second)))):
                return first, second
    return None

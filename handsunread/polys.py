"""POLYS of FRACTIONS: what divides them, the poly of a TABLE, and what a READING shows of a start."""

from math import gcd

from handsunread.basics import NONE, ONE, cleared, cored, dot, fixed, fraction, is_fraction, none_row, plus
from handsunread.basics import share_of, times
from handsunread.errors import Unfit
from handsunread.tables import row_applied, row_less, row_sum, row_times, same_table, table_product, whole_det

ONE_POLY = ((1, 1),)
# Two POLYS without a factor in common by the rests of division by a great prime have none at all.
PRIME = 2305843009213693951


def is_poly(thing):
    if not isinstance(thing, tuple) or not all([is_fraction(part) for part in thing]):
        return False
    return not thing or thing[-1] != NONE


def is_tone(thing):
    return is_poly(thing) and len(thing) >= 2 and thing[-1] == ONE


def trimmed(row):
    """The POLY with these FRACTIONS: without those of 0 at the end."""
    long = len(row)
    while long and not row[long - 1][0]:
        long = long - 1
    return tuple(row[:long])


def pair_sum(one, other):
    long = max(len(one), len(other))
    first = one + none_row(long - len(one))
    second = other + none_row(long - len(other))
    return trimmed(row_sum(first, second))


def pair_product(one, other):
    if not one or not other:
        return ()
    tops, bottom = cleared(one)
    others, low = cleared(other)
    found = [0] * (len(tops) + len(others) - 1)
    for place, top in enumerate(tops):
        for beyond, much in enumerate(others):
            found[place + beyond] += top * much
    return tuple([fraction(top, bottom * low) for top in found])


def poly_sum(polys):
    found = ()
    for poly in fixed(polys):
        found = pair_sum(found, poly)
    return found


def poly_product(polys):
    found = ONE_POLY
    for poly in fixed(polys):
        found = pair_product(found, poly)
    return found


def value_at(poly, number):
    poly, number = fixed(poly), fixed(number)
    found = NONE
    for part in reversed(poly):
        found = plus(times(found, number), part)
    return found


def monic(poly):
    poly = fixed(poly)
    if not poly:
        return ()
    return row_times(poly, share_of(ONE, poly[-1]))


def divided(one, other):
    one, other = fixed(one), fixed(other)
    if not other:
        raise Unfit()
    rest = one
    parts = []
    # From the highest power down; each step takes off one place of the rest.
    for shift in range(len(one) - len(other), -1, -1):
        much = share_of(rest[-1], other[-1])
        parts.append(much)
        taken = none_row(shift) + row_times(other, much)
        rest = row_less(rest, taken)[:-1]
    return trimmed(parts[::-1]), trimmed(rest)


def divides(one, other):
    one, other = fixed(one), fixed(other)
    if not one:
        return not other
    return not divided(other, one)[1]


def how_often(tone, poly):
    tone, poly = fixed(tone), fixed(poly)
    if not poly:
        raise Unfit()
    often = 0
    left, rest = divided(poly, tone)
    while not rest:
        often += 1
        left, rest = divided(left, tone)
    return often


def whole_rest(one, other):
    """A multiple of the rest of one divided by other, in whole numbers; the last number of other is not 0."""
    rest = one
    while len(rest) >= len(other):
        share = gcd(rest[-1], other[-1])
        mine, others = other[-1] // share, rest[-1] // share
        shift = len(rest) - len(other)
        left = [mine * number for number in rest]
        for place, number in enumerate(other):
            left[shift + place] -= others * number
        rest = untailed(left)
    return cored(rest)


def untailed(numbers):
    """Whole numbers without those of 0 at the end."""
    long = len(numbers)
    while long and not numbers[long - 1]:
        long = long - 1
    return numbers[:long]


def surely_coprime(one, other):
    """Whether two lists of whole numbers have no factor in common by the rests of division by PRIME."""
    if not one or not other or not one[-1] % PRIME or not other[-1] % PRIME:
        return False
    first = [number % PRIME for number in one]
    second = [number % PRIME for number in other]
    while second:
        while len(first) >= len(second):
            mine, others = second[-1], first[-1]
            shift = len(first) - len(second)
            first = [mine * number for number in first]
            for place, number in enumerate(second):
                first[shift + place] -= others * number
            first = untailed([number % PRIME for number in first])
        first, second = second, first
    return len(first) == 1


def pair_common(one, other):
    """The greatest common divisor of two POLYS, not always monic."""
    first, second = cored(cleared(one)[0]), cored(cleared(other)[0])
    if surely_coprime(first, second):
        return ONE_POLY
    while second:
        first, second = second, whole_rest(first, second)
    return tuple([(number, 1) for number in first])


def have_common(one, other):
    """Whether two POLYS, not both (), have a factor in common."""
    return len(pair_common(one, other)) > 1


def greatest_common(polys):
    found = ()
    for poly in fixed(polys):
        found = pair_common(found, poly)
        if len(found) == 1:
            return ONE_POLY
    return monic(found)


def least_common(polys):
    found = ONE_POLY
    for poly in fixed(polys):
        if not poly:
            return ()
        found = pair_product(divided(found, pair_common(found, poly))[0], poly)
    return monic(found)


def common_paper(one, other):
    one, other = fixed(one), fixed(other)
    # Each of the two triples is (near, far, near times one and far times other, added up).
    first, second = scaled((ONE_POLY, (), one)), scaled(((), ONE_POLY, other))
    while second[2]:
        much = row_times(divided(first[2], second[2])[0], (-1, 1))
        coming = [pair_sum(own, pair_product(much, others)) for own, others in zip(first, second)]
        first, second = second, scaled(coming)
    return first[0], first[1]


def scaled(triple):
    """POLYS divided by the last FRACTION of the last one, if it is not (): so they stay short."""
    if not triple[2]:
        return triple
    much = share_of(ONE, triple[2][-1])
    return [row_times(poly, much) for poly in triple]


def is_common_paper(one, other, thing):
    one, other = fixed(one), fixed(other)
    if not isinstance(thing, tuple) or len(thing) != 2:
        return False
    if not is_poly(thing[0]) or not is_poly(thing[1]):
        return False
    found = pair_sum(pair_product(thing[0], one), pair_product(thing[1], other))
    return found == greatest_common((one, other))


def each_once(poly):
    poly = fixed(poly)
    if not poly:
        raise Unfit()
    # What divides more often than once divides the slope, too, once less often.
    slope = tuple([times(part, (place, 1)) for place, part in enumerate(poly)])[1:]
    return monic(divided(poly, pair_common(poly, slope))[0])


def without_factors(one, other):
    one, other = fixed(one), fixed(other)
    if not one or not other:
        raise Unfit()
    left = one
    common = pair_common(left, other)
    while len(common) > 1:
        left = divided(left, common)[0]
        common = pair_common(left, other)
    return monic(left)


def through(values):
    """The whole numbers of the POLY of the least degree that comes to values[t] at each t.

    All of them are known to be whole. Differences of differences are what
    x (x - 1) .. (x - k + 1) divided by k! is taken times.
    """
    heads = []
    row = values
    while row:
        heads.append(row[0])
        row = [after - ahead for ahead, after in zip(row, row[1:])]
    top = 1
    for place in range(1, len(values)):
        top = top * place
    found, steps, scale = [0] * len(values), [1], top
    for place, head in enumerate(heads):
        for power, number in enumerate(steps):
            found[power] += scale * head * number
        # The next product of steps: times (x - place); scale is top divided by (place + 1)!.
        steps = [ahead - place * after for ahead, after in zip([0] + steps, steps + [0])]
        scale = scale // (place + 1)
    return [number // top for number in found]


def table_poly(table):
    table = fixed(table)
    rows = [cleared(row) for row in table]
    bottom = 1
    for _, low in rows:
        bottom = bottom * low
    values = [whole_det(off_diagonal(rows, number)) for number in range(len(table) + 1)]
    return tuple([fraction(number, bottom) for number in through(values)])


def off_diagonal(rows, number):
    """number on the diagonal less the ROWS, each told as tops and a bottom, times these bottoms."""
    found = []
    for place, (tops, low) in enumerate(rows):
        line = [-top for top in tops]
        line[place] += number * low
        found.append(line)
    return found


def at_table(poly, table):
    poly, table = fixed(poly), fixed(table)
    found = tuple([none_row(len(table)) for _ in table])
    for part in reversed(poly):
        found = plus_diagonal(table_product(found, table), part)
    return found


def plus_diagonal(table, much):
    """The TABLE with so much added to each place of the diagonal."""
    diagonal = [row_times(unit, much) for unit in same_table(len(table))]
    return tuple([row_sum(row, line) for row, line in zip(table, diagonal)])


def least_poly(table):
    table = fixed(table)
    if not table:
        return ONE_POLY
    poly = table_poly(table)
    # The places of what undoes x on the diagonal less the table, times poly: powers from the highest down.
    layers = [same_table(len(table))]
    for part in reversed(poly[1:-1]):
        layers.append(plus_diagonal(table_product(layers[-1], table), part))
    layers.reverse()
    places = range(len(table))
    beside = [trimmed([layer[row][column] for layer in layers]) for row in places for column in places]
    # What divides poly and all of them is more than is needed to annul the table.
    return monic(divided(poly, greatest_common(beside))[0])


def shown_row(table, start, reading, many):
    table, start, reading = fixed(table), fixed(start), fixed(reading)
    cells, found = start, []
    for _ in range(many):
        found.append(row_applied((reading,), cells)[0])
        cells = row_applied(table, cells)
    return tuple(found)


def shown_poly(table, start, reading):
    table, start, reading = fixed(table), fixed(start), fixed(reading)
    poly = table_poly(table)
    # What is shown, taken times x to the powers -1, -2 .. and added up, is a POLY divided by poly:
    # in least terms it goes by what it is divided by.
    cells, tops = start, []
    for part in reversed(poly[:-1]):
        tops.append(row_applied((reading,), cells)[0])
        cells = row_sum(row_applied(table, cells), row_times(start, part))
    return monic(divided(poly, pair_common(poly, trimmed(tops[::-1])))[0])


def goes_by(row, poly):
    row, poly = fixed(row), fixed(poly)
    if not poly:
        raise Unfit()
    tops, others = cleared(row)[0], cleared(poly)[0]
    many = len(tops) - len(others) + 1
    return not any([dot(tops[place:place + len(others)], others) for place in range(many)])

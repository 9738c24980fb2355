"""What the tests share: their own sums, by Python's Fraction, and ways to call and to spoil."""

from fractions import Fraction
from inspect import signature
from itertools import combinations, permutations
from random import Random


# Pairs of the package and Fractions of Python's own.


def number(pair):
    return Fraction(pair[0], pair[1])


def numbers(row):
    return [number(pair) for pair in row]


def number_rows(table):
    return [numbers(row) for row in table]


def pair(value):
    value = Fraction(value)
    return (value.numerator, value.denominator)


def row(*values):
    return tuple(pair(value) for value in values)


def table(*rows):
    return tuple(row(*values) for values in rows)


def poly(*values):
    """The POLY with these numbers, that of power 0 first."""
    values = list(values)
    while values and values[-1] == 0:
        values.pop()
    return row(*values)


def rooted(*roots):
    """The monic POLY that is 0 at just these numbers, each as often as it is told."""
    found = [Fraction(1)]
    for root in roots:
        found = own_product(found, [-Fraction(root), Fraction(1)])
    return row(*found)


# Sums of the tests' own: of lists of Fractions.


def own_shown(one, other):
    return sum((first * second for first, second in zip(one, other)), Fraction(0))


def own_applied(rows, cells):
    return [own_shown(line, cells) for line in rows]


def own_times(one, other):
    return [[own_shown(line, column) for column in zip(*other)] for line in one]


def own_det(rows):
    """By the first row."""
    if not rows:
        return Fraction(1)
    total = Fraction(0)
    for place, value in enumerate(rows[0]):
        if value:
            rest = [line[:place] + line[place + 1:] for line in rows[1:]]
            total += (-1) ** place * value * own_det(rest)
    return total


def own_rank(rows):
    """The greatest number of rows and columns, as many, whose determinant is not 0."""
    if not rows:
        return 0
    for many in range(min(len(rows), len(rows[0])), 0, -1):
        for lines in combinations(rows, many):
            for places in combinations(range(len(rows[0])), many):
                if own_det([[line[place] for place in places] for line in lines]):
                    return many
    return 0


def own_in(rows, cells):
    """Whether cells are a sum of rows, so many times each."""
    return own_rank(list(rows) + [cells]) == own_rank(list(rows))


def own_within(rows, others):
    return own_rank(list(rows) + list(others)) == own_rank(list(others))


def own_sum(one, other):
    long = max(len(one), len(other))
    first, second = list(one) + [0] * (long - len(one)), list(other) + [0] * (long - len(other))
    return own_trimmed([Fraction(a) + b for a, b in zip(first, second)])


def own_trimmed(values):
    values = list(values)
    while values and values[-1] == 0:
        values.pop()
    return values


def own_product(one, other):
    found = [Fraction(0)] * max(0, len(one) + len(other) - 1)
    for place, value in enumerate(one):
        for beyond, much in enumerate(other):
            found[place + beyond] += value * much
    return own_trimmed(found)


def own_at(values, at):
    return sum((value * at ** power for power, value in enumerate(values)), Fraction(0))


def own_poly_det(rows):
    """Of rows of lists of Fractions, by the first row."""
    if not rows:
        return [Fraction(1)]
    total = []
    for place, values in enumerate(rows[0]):
        rest = [line[:place] + line[place + 1:] for line in rows[1:]]
        total = own_sum(total, own_product([Fraction((-1) ** place)], own_product(values, own_poly_det(rest))))
    return total


def own_table_poly(rows):
    """The determinant of x on the diagonal less the rows."""
    return own_poly_det([
        [own_sum([0, 1] if place == column else [], [-value]) for column, value in enumerate(line)]
        for place, line in enumerate(rows)
    ])


def own_divided(one, other):
    """The rest of one divided by other, which is not 0."""
    rest = own_trimmed(one)
    while len(rest) >= len(other):
        much = rest[-1] / Fraction(other[-1])
        shift = len(rest) - len(other)
        rest = [value - (much * other[at - shift] if at >= shift else 0) for at, value in enumerate(rest)]
        rest = own_trimmed(rest[:-1])
    return rest


def own_common(polys):
    """The greatest monic divisor of all of these, [] if all are 0."""
    found = []
    for values in polys:
        other = own_trimmed(values)
        while other:
            found, other = other, own_divided(found, other)
    return [value / Fraction(found[-1]) for value in found]


def own_swift_rank(rows):
    """By taking off one row after the other."""
    work, found = [list(map(Fraction, line)) for line in rows], 0
    for column in range(len(work[0]) if work else 0):
        places = [at for at, line in enumerate(work) if line[column]]
        if places:
            pivot = work.pop(places[0])
            work = [
                [value - line[column] / pivot[column] * other for value, other in zip(line, pivot)] for line in work
            ]
            found += 1
    return found


# Inputs by the way of dice that always fall alike.


def dice(seed):
    return Random(seed)


def some_row(die, long, low=-2, high=2, bottoms=(1, 1, 1, 2, 3)):
    return row(*[Fraction(die.randint(low, high), die.choice(bottoms)) for _ in range(long)])


def some_table(die, many, long, **more):
    return tuple(some_row(die, long, **more) for _ in range(many))


def great_row(die, long):
    return row(*[Fraction(die.randint(-10 ** 40, 10 ** 40), die.randint(1, 10 ** 6)) for _ in range(long)])


def great_table(die, many, long):
    return tuple(great_row(die, long) for _ in range(many))


def some_plant(die, cells, hands, most=2, **more):
    """A PLANT with so many cells and hands, each with up to so many levers and gauges."""
    return (
        some_table(die, cells, cells, **more),
        tuple(
            (some_table(die, die.randint(0, most), cells, **more), some_table(die, die.randint(0, most), cells, **more))
            for _ in range(hands)
        ),
    )


def thin_row(die, long, many=4):
    """A ROW in which about one place in so many is 1, some are -1 or 2, and all others are 0."""
    return row(*[die.choice((1, 1, 1, -1, 2)) if die.randint(1, many) == 1 else 0 for _ in range(long)])


def thin_table(die, rows, long, many=4):
    return tuple(thin_row(die, long, many) for _ in range(rows))


def thin_plant(die, cells, hands, most=2, many=4):
    """A PLANT in which much is 0, so that often something is reached and often something is not."""
    return (
        thin_table(die, cells, cells, many),
        tuple(
            (thin_table(die, die.randint(0, most), cells, 3), thin_table(die, die.randint(0, most), cells, 3))
            for _ in range(hands)
        ),
    )


def unit_rows(die, many, long):
    """So many ROWS, each with a number but 0 at one place alone."""
    found = []
    for _ in range(many):
        at = die.randrange(long)
        found.append(row(*[die.choice((1, 1, -1, 2)) if place == at else 0 for place in range(long)]))
    return tuple(found)


def chain_plant(die, cells, hands, most=1):
    """A PLANT whose wires are at one cell each, and whose cells pass on little: WAYS over several hands are common."""
    rows = tuple(die.choice((thin_row(die, cells, 9), unit_rows(die, 1, cells)[0])) for _ in range(cells))
    return rows, tuple(
        (unit_rows(die, die.randint(min(1, most), most), cells), unit_rows(die, die.randint(min(1, most), most), cells))
        for _ in range(hands)
    )


def relay(die, cells, hands):
    """A PLANT, a DIFFERENCE and a READING with a WAY over all of its hands, less than its cells, in some order."""
    places, order = list(range(cells)), list(range(hands))
    die.shuffle(places)
    die.shuffle(order)
    units = [row(*[die.choice((1, -1, 2)) if place == at else 0 for place in range(cells)]) for at in places]
    own = {hand: ((units[at + 1],), (units[at],)) for at, hand in enumerate(order)}
    plant = thin_table(die, cells, cells, 6), tuple(own[hand] for hand in range(hands))
    return plant, units[0], units[hands]


# Sums of the tests' own over PLANTS.


def own_run(plant, cells, many):
    """What cells, Fractions, become by the table alone: before each of so many ticks."""
    rows, found = number_rows(plant[0]), [list(cells)]
    for _ in range(many - 1):
        found.append(own_applied(rows, found[-1]))
    return found


def own_delays(plant, starts, reads):
    """The ticks below the number of cells before which some of reads shows other than 0 of some of starts."""
    return tuple(
        tick for tick in range(len(plant[0]))
        if any(own_shown(read, own_run(plant, start, tick + 1)[tick]) for start in starts for read in reads)
    )


def own_reach(plant, start, reading):
    """By each hand, or pair of hands, the delays: from the DIFFERENCE, hand to hand, to the READING."""
    own = [(number_rows(levers), number_rows(gauges)) for levers, gauges in plant[1]]
    first = [own_delays(plant, [numbers(start)], gauges) for _, gauges in own]
    between = [[own_delays(plant, levers, gauges) for _, gauges in own] for levers, _ in own]
    last = [own_delays(plant, levers, [numbers(reading)]) for levers, _ in own]
    return first, between, last


def own_is_way(reach, hands):
    first, between, last = reach
    return bool(
        hands and first[hands[0]] and last[hands[-1]]
        and all(between[one][other] for one, other in zip(hands, hands[1:]))
    )


def own_ticks(reach, hands):
    first, between, last = reach
    steps = [between[one][other] for one, other in zip(hands, hands[1:])]
    return sum(delays[0] for delays in [first[hands[0]], last[hands[-1]]] + steps) + len(hands)


def own_ways(plant, start, reading):
    """All WAYS with no hand twice, by all rows of hands."""
    reach = own_reach(plant, start, reading)
    rows = [row for many in range(1, len(plant[1]) + 1) for row in permutations(range(len(plant[1])), many)]
    return sorted(row for row in rows if own_is_way(reach, row))


def own_kept(plant, rows):
    """Rows that tell the least SPACE with these that the table keeps."""
    return [cells for row in rows for cells in own_run(plant, row, len(plant[0]))]


def some_rules(die, plant, **more):
    return tuple(some_table(die, len(levers), len(gauges), **more) for levers, gauges in plant[1])


# Calls.


def listed(value):
    """A list in the place of each tuple, at any depth."""
    if isinstance(value, (tuple, list)):
        return [listed(part) for part in value]
    return value


def lists_within(value):
    if isinstance(value, list):
        return True
    return isinstance(value, tuple) and any(lists_within(part) for part in value)


def ways_to_call(function, arguments):
    """By position and by names, with tuples and with lists; a thing stays what it is."""
    names = list(signature(function).parameters)
    with_lists = tuple(
        argument if name == "thing" else listed(argument) for name, argument in zip(names, arguments)
    )
    return [(arguments, {}), ((), dict(zip(names, arguments))), (with_lists, {}), ((), dict(zip(names, with_lists)))]


def asked(case, function, *arguments):
    """What the function returns, which is the same however it is called, and changes nothing."""
    found = function(*arguments)
    for by_place, by_name in ways_to_call(function, arguments):
        ahead = repr((by_place, by_name))
        case.assertEqual(repr(function(*by_place, **by_name)), repr(found), function.__name__)
        case.assertEqual(repr((by_place, by_name)), ahead, function.__name__)
    return found


def refused(case, error, values, function, *arguments):
    """The function raises this error, with these values by name, however it is called."""
    for by_place, by_name in ways_to_call(function, arguments):
        with case.assertRaises(error) as held:
            function(*by_place, **by_name)
        case.assertIs(held.exception.__class__, error)
        for name, value in values.items():
            case.assertEqual(repr(getattr(held.exception, name)), repr(value), function.__name__)


# Things that are none.

OTHER_THINGS = (None, True, False, 0, 1, -1, "", "1", "lever", (None,), (True,), ("",), [], [()], ((),) * 14, (((1, 1),), 1))

NO_FRACTIONS = (
    (2, 4), (1, 0), (1, -2), (-1, -1), (0, 2), (0, -1), (0, 0), (True, 1), (False, 1), (1, True), (1,), (1, 1, 1), (),
    [1, 1], "11", ("1", 1), (1, None), (None, 1), None, 1, 0, True, ((1, 1), 1), ((1,), 1), "a",
)


def spoiled(thing):
    """The thing with one flaw each, by which it is none of what it was made of."""
    found = []
    if isinstance(thing, tuple):
        found.extend([list(thing), None, True, 5, "ab", [None]])
        if len(thing) == 2 and all(isinstance(part, int) for part in thing):
            found.extend([(2 * thing[0], 2 * thing[1]), (thing[0], -thing[1]), thing + (1,), thing[:1]])
            if thing[0] == 0:
                found.append((0, 2))
        for place, part in enumerate(thing):
            found.extend([thing[:place] + (other,) + thing[place + 1:] for other in spoiled(part)])
    elif isinstance(thing, int):
        found.extend([None, str(thing), (thing,), ()])
        if thing in (0, 1):
            found.append(bool(thing))
    else:
        found.extend([None, 0])
    return found


def is_none_spoiled(case, function, *arguments):
    """The function takes the thing among these arguments, and nothing that is spoiled in its place."""
    case.assertIs(asked(case, function, *arguments), True)
    place = list(signature(function).parameters).index("thing")
    for other in spoiled(arguments[place]):
        case.assertIs(function(*arguments[:place], other, *arguments[place + 1:]), False, other)

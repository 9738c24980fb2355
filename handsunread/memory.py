"""STEADY PROGRAMS with memory: their whole, RULES in a greater PLANT, and the leanest of those that are alike."""

from handsunread.basics import fixed, none_row, unit_row
from handsunread.errors import Unfit
from handsunread.plants import check_hand, hand_sizes, is_rules, whole
from handsunread.plays import is_steady_program
from handsunread.polys import divided, plus_diagonal, table_poly
from handsunread.spaces import kept_in, kept_with, meet, over, rest_of, zeros_of
from handsunread.staying import stay
from handsunread.tables import flipped, inverse, leads, rest_off, row_applied, sum_table, table_product, times_much


def is_program(plant, hand, thing):
    plant = fixed(plant)
    check_hand(plant, hand)
    levers, gauges = hand_sizes(plant)[hand]
    return is_steady_program(thing, levers, gauges)


def steady_whole(plant, steady):
    steady = fixed(steady)
    return whole(greater_plant(plant, memories_of(steady)), as_rules(plant, steady))


def memories_of(steady):
    """How many memories each hand has."""
    return tuple([len(program[0]) for program in steady])


def steady_poly(plant, steady):
    return table_poly(steady_whole(plant, steady))


def beyond_stay(plant, steady):
    return divided(steady_poly(plant, steady), stay(plant))[0]


def greater_plant(plant, memory):
    plant, memory = fixed(plant), fixed(memory)
    many = len(plant[0])
    more = sum(memory)
    table = wider(plant[0], more) + (none_row(many + more),) * more
    hands, begin = [], many
    for (levers, gauges), own in zip(plant[1], memory):
        # Each further cell is moved by a lever, and seen by a gauge, of its own.
        units = tuple([unit_row(many + more, begin + place) for place in range(own)])
        hands.append((wider(levers, more) + units, wider(gauges, more) + units))
        begin += own
    return table, tuple(hands)


def wider(rows, more):
    """The ROWS with so many 0 behind each."""
    return tuple([row + none_row(more) for row in rows])


def as_rules(plant, steady):
    found = []
    for keeps, hears, tells, rule in fixed(steady):
        found.append(side_by_side(rule, tells) + side_by_side(hears, keeps))
    return tuple(found)


def side_by_side(one, other):
    return tuple([row + more for row, more in zip(one, other)])


def as_steady(plant, memory, rules):
    plant, memory, rules = fixed(plant), fixed(memory), fixed(rules)
    if not is_rules(greater_plant(plant, memory), rules):
        raise Unfit()
    found = []
    for (levers, gauges), rule in zip(hand_sizes(plant), rules):
        above, below = rule[:levers], rule[levers:]
        keeps, hears = tuple([row[gauges:] for row in below]), tuple([row[:gauges] for row in below])
        tells, own = tuple([row[gauges:] for row in above]), tuple([row[:gauges] for row in above])
        found.append((keeps, hears, tells, own))
    return tuple(found)


def rules_at(plant, steady, much):
    plant, steady, much = fixed(plant), fixed(steady), fixed(much)
    found = []
    for (keeps, hears, tells, rule), (_, gauges) in zip(steady, hand_sizes(plant)):
        undone = inverse(plus_diagonal(times_much(keeps, (-1, 1)), much))
        coming = told_by(tells, table_product(undone, hears), gauges)
        found.append(sum_table(rule, coming))
    return tuple(found)


def told_by(tells, held, gauges):
    """tells times what the memories hold of each gauge."""
    if not held:
        # Without memories a product would not tell how many gauges there are.
        return (none_row(gauges),) * len(tells)
    return table_product(tells, held)


def answers(plant, hand, program, many):
    plant, program = fixed(plant), fixed(program)
    check_hand(plant, hand)
    return first_answers(plant, hand, program, many)


def first_answers(plant, hand, program, many):
    """The same, of a hand that there is, of what is tuples throughout already."""
    gauges = hand_sizes(plant)[hand][1]
    keeps, held, tells, rule = program
    found = [rule]
    for _ in range(many - 1):
        found.append(told_by(tells, held, gauges))
        held = table_product(keeps, held)
    return tuple(found[:many])


def alike(plant, hand, one, other):
    plant, one, other = fixed(plant), fixed(one), fixed(other)
    check_hand(plant, hand)
    return answer_alike(plant, hand, one, other)


def answer_alike(plant, hand, one, other):
    """Whether all answers of two PROGRAMS of the hand are the same."""
    many = len(one[0]) + len(other[0]) + 1
    return first_answers(plant, hand, one, many) == first_answers(plant, hand, other, many)


def fewest_memories(plant, hand, program):
    return len(leanest(plant, hand, program)[0])


def leanest(plant, hand, program):
    plant, program = fixed(plant), fixed(program)
    check_hand(plant, hand)
    keeps, hears, tells, rule = program
    # What no gauge leads to is never held, what no lever ever tells of is of no use.
    led = kept_with(keeps, flipped(hears))
    hidden = meet(led, kept_in(keeps, zeros_of(tells, len(keeps))))
    rest = rest_of(led, hidden)
    places = leads(rest)
    coming = []
    for column in flipped(hears):
        left = rest_off(hidden, column)
        coming.append(tuple([left[place] for place in places]))
    told = tuple([row_applied(rest, row) for row in tells])
    return over(keeps, led, hidden), flipped(coming), told, rule


def is_leanest(plant, hand, program, thing):
    plant, program = fixed(plant), fixed(program)
    if not is_program(plant, hand, thing) or len(thing[0]) != fewest_memories(plant, hand, program):
        return False
    return answer_alike(plant, hand, program, thing)

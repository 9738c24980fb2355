"""Partings of the hands in two lots: what divides the poly of the whole of ALL RULES."""

from handsunread.basics import NONE, ONE, all_places, fixed, less
from handsunread.plants import all_rules, check_lot, gauges_of, is_rules, levers_of, others_than, whole
from handsunread.polys import have_common, least_common, plus_diagonal, trimmed
from handsunread.ptables import divisor_of_order, ptable_at
from handsunread.tables import rank, times_much


def parting(plant, lot):
    plant, lot = fixed(plant), fixed(lot)
    check_lot(plant, lot)
    levers, gauges = levers_of(plant, lot), gauges_of(plant, others_than(plant, lot))
    rows = []
    for cell, row in enumerate(plant[0]):
        polys = [plain_poly(less(NONE, part)) for part in row]
        polys[cell] = (less(NONE, row[cell]), ONE)
        rows.append(tuple(polys + [plain_poly(lever[cell]) for lever in levers]))
    for gauge in gauges:
        rows.append(tuple([plain_poly(part) for part in gauge]) + ((),) * len(levers))
    return tuple(rows)


def plain_poly(part):
    """The FRACTION as a POLY."""
    return trimmed((part,))


def parting_divisor(plant, lot):
    return divisor_of_order(parting(plant, lot), len(plant[0]))


def all_lots(plant):
    return all_places(len(plant[1]))


def parted_multiple(plant):
    plant = fixed(plant)
    return least_common([parting_divisor(plant, lot) for lot in all_lots(plant)])


def is_short(plant, lot, tone):
    return have_common(parting_divisor(plant, lot), fixed(tone))


def short_lots(plant, tone):
    plant, tone = fixed(plant), fixed(tone)
    return tuple([lot for lot in all_lots(plant) if is_short(plant, lot, tone)])


def rank_at(plant, lot, number):
    return rank(ptable_at(parting(plant, lot), number))


def ranks_at(plant, number):
    """By each lot the rank of its parting at the number."""
    return {lot: rank_at(plant, lot, number) for lot in all_lots(plant)}


def lowest_rank(plant, number):
    """The rank of the lowest partings at the number."""
    ranks = ranks_at(plant, number)
    return min([ranks[lot] for lot in ranks])


def lowest_lots(plant, number):
    ranks = ranks_at(fixed(plant), number)
    least = min([ranks[lot] for lot in ranks])
    return tuple([lot for lot in ranks if ranks[lot] == least])


def rank_by(plant, rules, number):
    """The rank of the number on the diagonal less the whole of the RULES."""
    return rank(plus_diagonal(times_much(whole(plant, rules), (-1, 1)), number))


def rank_rules(plant, number):
    plant, number = fixed(plant), fixed(number)
    most = lowest_rank(plant, number)
    some = all_rules(plant)
    place = 0
    # Some of them have it: as great a rank as any RULES can give.
    while rank_by(plant, some[place], number) < most:
        place += 1
    return some[place]


def is_rank_rules(plant, number, thing):
    plant, number = fixed(plant), fixed(number)
    return is_rules(plant, thing) and rank_by(plant, thing, number) == lowest_rank(plant, number)

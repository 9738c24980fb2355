"""What is sure FOR ALL PROGRAMS whatever: SUREPAPERS, UNSUREPAPERS and the SPACES of all that is sure."""

from handsunread.basics import NONE, ONE, cleared, dot, fixed, is_number
from handsunread.plants import all_hands, gauges_of, hand_sizes, is_lot, levers_of, others_than, whole
from handsunread.plays import is_clock, played
from handsunread.polys import shown_row
from handsunread.spaces import is_in, is_kept, is_space, kept_in, kept_with, within, zeros_of
from handsunread.tables import row_applied, row_less, shows_some
from handsunread.ways import reached, reaching, soonest, stops, way

LAST_TICK = 99


def is_sure(plant, start, reading):
    return way(plant, start, reading) is None


def sure_paper(plant, start, reading):
    plant, start, reading = fixed(plant), fixed(start), fixed(reading)
    lot = reached(plant, start)
    levers = levers_of(plant, lot)
    moved = kept_with(plant[0], levers)
    if shows_some(moved, reading):
        return None
    return lot, kept_with(plant[0], (start,) + levers), moved


def is_sure_paper(plant, start, reading, thing):
    plant, start, reading = fixed(plant), fixed(start), fixed(reading)
    if not isinstance(thing, tuple) or len(thing) != 3:
        return False
    lot, hidden, moved = thing
    many = len(plant[0])
    if not is_lot(plant, lot) or not is_space(hidden, many) or not is_space(moved, many):
        return False
    if not is_kept(plant[0], hidden) or not is_kept(plant[0], moved) or not within(moved, hidden):
        return False
    if not is_in(hidden, start) or not within(levers_of(plant, lot), moved):
        return False
    gauges = gauges_of(plant, others_than(plant, lot))
    return not any([shows_some(gauges, row) for row in hidden]) and not shows_some(moved, reading)


def unsure_paper(plant, start, reading):
    plant, start, reading = fixed(plant), fixed(start), fixed(reading)
    acts = stops(plant, start, reading)
    if not acts:
        return None
    clock = [act_rules(plant, acts, tick) for tick in range(acts[-1][3] + 1)]
    return tuple(clock), soonest(plant, start, reading)


def act_rules(plant, acts, tick):
    """The RULES of this tick by which the quadruples (hand, lever, gauge, tick) come, all else being idle."""
    now = [act[:3] for act in acts if act[3] == tick]
    found = []
    for hand, (levers, gauges) in enumerate(hand_sizes(plant)):
        found.append(tuple([
            tuple([ONE if (hand, lever, gauge) in now else NONE for gauge in range(gauges)])
            for lever in range(levers)
        ]))
    return tuple(found)


def is_unsure_paper(plant, start, reading, thing):
    plant, start, reading = fixed(plant), fixed(start), fixed(reading)
    if not isinstance(thing, tuple) or len(thing) != 2:
        return False
    clock, tick = thing
    if not is_number(tick) or not 0 <= tick <= LAST_TICK or not is_clock(plant, clock):
        return False
    done = [whole(plant, rules) for rules in clock[:tick]]
    by_clock = shown_behind(done + [plant[0]] * (tick - len(done)), start, reading)
    by_itself = shown_behind([plant[0]] * tick, start, reading)
    return by_clock[0] * by_itself[1] != by_itself[0] * by_clock[1]


def shown_behind(tables, start, reading):
    """The top and the bottom of what reading shows once these TABLES came upon start, one behind another.

    They are not in least terms: over many ticks it is that which would take long.
    """
    cells, bottom = cleared(start)
    for table in tables:
        tops, low = cleared([part for row in table for part in row])
        cells = [dot(tops[place:place + len(cells)], cells) for place in range(0, len(tops), len(cells))]
        bottom = bottom * low
    tops, low = cleared(reading)
    return dot(tops, cells), bottom * low


def strayed(plant, start, reading, clock, ticks):
    reading = fixed(reading)
    rows = played(plant, start, clock, ticks)[0]
    return row_less(row_applied(rows, reading), course(plant, start, reading, ticks))


def sure_readings(plant, start):
    plant, start = fixed(plant), fixed(start)
    return zeros_of(kept_with(plant[0], levers_of(plant, reached(plant, start))), len(plant[0]))


def sure_starts(plant, reading):
    plant, reading = fixed(plant), fixed(reading)
    return hidden_from(plant, reaching(plant, reading))


def hidden_from(plant, hands):
    """The SPACE of the DIFFERENCES that reach none of these hands."""
    return kept_in(plant[0], zeros_of(gauges_of(plant, hands), len(plant[0])))


def untouched(plant):
    plant = fixed(plant)
    return zeros_of(kept_with(plant[0], levers_of(plant, all_hands(plant))), len(plant[0]))


def unseen(plant):
    plant = fixed(plant)
    return hidden_from(plant, all_hands(plant))


def course(plant, start, reading, ticks):
    return shown_row(fixed(plant)[0], start, reading, ticks + 1)

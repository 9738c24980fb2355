"""PLAYS: what the cells of a PLANT hold and what its hands do, tick by tick."""

from handsunread.basics import fixed, is_row, none_row
from handsunread.errors import Unfit
from handsunread.plants import check_hand, hand_sizes, is_rules
from handsunread.tables import is_table, row_applied, row_less, row_read, row_sum


def is_moves(plant, thing):
    plant = fixed(plant)
    if not isinstance(thing, tuple) or len(thing) != len(plant[1]):
        return False
    return all([is_row(row, levers) for row, (levers, _) in zip(thing, hand_sizes(plant))])


def is_clock(plant, thing):
    plant = fixed(plant)
    return isinstance(thing, tuple) and all([is_rules(plant, rules) for rules in thing])


def is_steady(plant, thing):
    plant = fixed(plant)
    if not isinstance(thing, tuple) or len(thing) != len(plant[1]):
        return False
    return all([
        is_steady_program(program, levers, gauges)
        for (levers, gauges), program in zip(hand_sizes(plant), thing)
    ])


def is_steady_program(thing, levers, gauges):
    """Whether thing is a STEADY PROGRAM of a hand with so many levers and gauges."""
    if not isinstance(thing, tuple) or len(thing) != 4 or not isinstance(thing[0], tuple):
        return False
    keeps, hears, tells, rule = thing
    many = len(keeps)
    if not is_table(keeps, many, many) or not is_table(hears, many, gauges):
        return False
    return is_table(tells, levers, many) and is_table(rule, levers, gauges)


def is_play(plant, thing):
    plant = fixed(plant)
    if not isinstance(thing, tuple) or len(thing) != 2:
        return False
    rows, doings = thing
    if not isinstance(rows, tuple) or not isinstance(doings, tuple) or len(rows) != len(doings) + 1:
        return False
    if not all([is_row(row, len(plant[0])) for row in rows]):
        return False
    if not all([is_moves(plant, moves) for moves in doings]):
        return False
    coming = tuple([cells_next(plant, row, moves) for row, moves in zip(rows, doings)])
    return coming == rows[1:]


def sights(plant, cells):
    """What each hand sees, of what is tuples throughout already."""
    return tuple([row_applied(gauges, cells) for _, gauges in plant[1]])


def seen(plant, cells):
    return sights(fixed(plant), fixed(cells))


def cells_next(plant, cells, moves):
    """The CELLS behind one tick, of what is tuples throughout already."""
    found = row_applied(plant[0], cells)
    for (levers, _), row in zip(plant[1], moves):
        if levers:
            found = row_sum(found, row_read(row, levers))
    return found


def ticked(plant, cells, moves):
    return cells_next(fixed(plant), fixed(cells), fixed(moves))


def idle_moves(plant):
    return tuple([none_row(levers) for levers, _ in hand_sizes(plant)])


def ruled_moves(rules, shows):
    """What each hand does by its RULE with what it sees."""
    return tuple([row_applied(rule, row) for rule, row in zip(rules, shows)])


def played(plant, cells, clock, ticks):
    plant, cells, clock = fixed(plant), fixed(cells), fixed(clock)
    rows, doings = [cells], []
    for tick in range(ticks):
        if tick < len(clock):
            moves = ruled_moves(clock[tick], sights(plant, rows[-1]))
        else:
            moves = idle_moves(plant)
        doings.append(moves)
        rows.append(cells_next(plant, rows[-1], moves))
    return tuple(rows), tuple(doings)


def idled(plant, cells, ticks):
    return played(plant, cells, (), ticks)


def steadied(plant, cells, steady, ticks):
    plant, cells, steady = fixed(plant), fixed(cells), fixed(steady)
    rows, doings = [cells], []
    memories = [none_row(len(program[0])) for program in steady]
    for _ in range(ticks):
        shows = sights(plant, rows[-1])
        moves, coming = [], []
        for (keeps, hears, tells, rule), memory, row in zip(steady, memories, shows):
            moves.append(row_sum(row_applied(tells, memory), row_applied(rule, row)))
            coming.append(row_sum(row_applied(keeps, memory), row_applied(hears, row)))
        memories = coming
        doings.append(tuple(moves))
        rows.append(cells_next(plant, rows[-1], moves))
    return tuple(rows), tuple(doings)


def shown_along(reading, play):
    return row_applied(fixed(play)[0], fixed(reading))


def check_ticks(one, other):
    """Raises Unfit for two PLAYS that have not as many ticks."""
    if len(one[0]) != len(other[0]):
        raise Unfit()


def apart(one, other):
    one, other = fixed(one), fixed(other)
    check_ticks(one, other)
    return tuple([row_less(after, ahead) for ahead, after in zip(one[0], other[0])])


def go_together(plant, hand, one, other):
    plant, one, other = fixed(plant), fixed(one), fixed(other)
    check_hand(plant, hand)
    check_ticks(one, other)
    return hand_goes(plant, hand, one, other)


def hand_goes(plant, hand, one, other):
    """Whether the hand moves alike in both PLAYS until it sees something else."""
    gauges = plant[1][hand][1]
    for tick, (moves, others) in enumerate(zip(one[1], other[1])):
        if row_applied(gauges, one[0][tick]) != row_applied(gauges, other[0][tick]):
            return True
        if moves[hand] != others[hand]:
            return False
    return True


def all_together(plant, one, other):
    plant, one, other = fixed(plant), fixed(one), fixed(other)
    check_ticks(one, other)
    return all([hand_goes(plant, hand, one, other) for hand in range(len(plant[1]))])

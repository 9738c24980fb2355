"""Ways over hands: who reaches whom while all hands are idle, at which delays, and in how many ticks."""

from handsunread.basics import fixed, is_number
from handsunread.errors import Unfit
from handsunread.plants import check_hand
from handsunread.tables import row_applied, shows_some


def idle_run(plant, cells):
    """The CELLS before each tick that is below their number, with all hands idle."""
    found = [cells]
    for _ in range(len(cells) - 1):
        found.append(row_applied(plant[0], found[-1]))
    return tuple(found)


def lever_runs(plant, hand):
    """The run from each lever of the hand."""
    return [idle_run(plant, lever) for lever in plant[1][hand][0]]


def delays_in(runs, rows):
    """The set of the delays at which one of the ROWS shows other than 0 of one of the runs."""
    found = [delay for run in runs for delay, cells in enumerate(run) if shows_some(rows, cells)]
    return tuple(sorted(set(found)))


def start_delays(plant, start, hand):
    plant, start = fixed(plant), fixed(start)
    check_hand(plant, hand)
    return delays_in([idle_run(plant, start)], plant[1][hand][1])


def hand_delays(plant, hand, other):
    plant = fixed(plant)
    check_hand(plant, hand)
    check_hand(plant, other)
    return delays_in(lever_runs(plant, hand), plant[1][other][1])


def reading_delays(plant, hand, reading):
    plant, reading = fixed(plant), fixed(reading)
    check_hand(plant, hand)
    return delays_in(lever_runs(plant, hand), (reading,))


# The next three keep the least delays alone, of what is tuples throughout already.


def first_steps(plant, start):
    """By each hand that the DIFFERENCE reaches the least delay."""
    run = idle_run(plant, start)
    found = {}
    for hand, (_, gauges) in enumerate(plant[1]):
        delays = delays_in([run], gauges)
        if delays:
            found[hand] = delays[0]
    return found


def hand_steps(plant):
    """By each pair of hands of which the one reaches the other the least delay."""
    found = {}
    for hand in range(len(plant[1])):
        runs = lever_runs(plant, hand)
        for other, (_, gauges) in enumerate(plant[1]):
            delays = delays_in(runs, gauges)
            if delays:
                found[(hand, other)] = delays[0]
    return found


def last_steps(plant, reading):
    """By each hand that reaches the READING the least delay."""
    found = {}
    for hand in range(len(plant[1])):
        delays = delays_in(lever_runs(plant, hand), (reading,))
        if delays:
            found[hand] = delays[0]
    return found


def all_steps(plant, start, reading):
    plant, start, reading = fixed(plant), fixed(start), fixed(reading)
    return first_steps(plant, start), hand_steps(plant), last_steps(plant, reading)


def links(plant):
    return tuple(hand_steps(fixed(plant)))


def spread(hands, pairs):
    """The set of these hands and of all that pairs (hand, other) lead to, over however many."""
    found, fresh = list(hands), list(hands)
    while fresh:
        hand = fresh.pop()
        coming = [other for one, other in pairs if one == hand and other not in found]
        found.extend(coming)
        fresh.extend(coming)
    return tuple(sorted(found))


def backwards(pairs):
    return [(other, one) for one, other in pairs]


def first_reached(plant, start):
    return tuple(first_steps(fixed(plant), fixed(start)))


def reached(plant, start):
    return spread(first_reached(plant, start), links(plant))


def reaching(plant, reading):
    straight = tuple(last_steps(fixed(plant), fixed(reading)))
    return spread(straight, backwards(links(plant)))


def goes(steps, hands):
    """Whether these hands, numbers, are a WAY by these steps."""
    first, between, last = steps
    if not hands or hands[0] not in first or hands[-1] not in last:
        return False
    return all([pair in between for pair in zip(hands, hands[1:])])


def is_way(plant, start, reading, thing):
    if not isinstance(thing, tuple) or not all([is_number(part) for part in thing]):
        return False
    return goes(all_steps(plant, start, reading), thing)


def best_way(steps):
    """The least triple (ticks, how many hands, hands) of a WAY by these steps; None if there is none."""
    first, between, last = steps
    # What is least up to a hand is the beginning of what is least beyond it: each step adds alike.
    best = {hand: (first[hand] + 1, 1, (hand,)) for hand in first}
    better = True
    while better:
        better = False
        for pair in between:
            if pair[0] in best:
                took, many, hands = best[pair[0]]
                coming = (took + between[pair] + 1, many + 1, hands + (pair[1],))
                if pair[1] not in best or coming < best[pair[1]]:
                    best[pair[1]] = coming
                    better = True
    found = [(best[hand][0] + last[hand], best[hand][1], best[hand][2]) for hand in last if hand in best]
    if not found:
        return None
    return min(found)


def way(plant, start, reading):
    # With all delays taken as 0 a WAY takes as many ticks as it has hands.
    steps = [{place: 0 for place in part} for part in all_steps(plant, start, reading)]
    best = best_way(steps)
    if best is None:
        return None
    return best[2]


def all_ways(plant, start, reading):
    first, between, last = all_steps(plant, start, reading)
    found, work = [], [(hand,) for hand in first]
    while work:
        hands = work.pop()
        if hands[-1] in last:
            found.append(hands)
        work.extend([hands + (other,) for hand, other in between if hand == hands[-1] and other not in hands])
    return sorted(found)


def ticks(plant, start, reading, hands):
    hands = fixed(hands)
    steps = all_steps(plant, start, reading)
    if not goes(steps, hands):
        raise Unfit()
    first, between, last = steps
    delays = [between[pair] for pair in zip(hands, hands[1:])]
    return first[hands[0]] + sum(delays) + last[hands[-1]] + len(hands)


def soonest(plant, start, reading):
    best = best_way(all_steps(plant, start, reading))
    if best is None:
        return None
    return best[0]


def stops(plant, start, reading):
    plant, start, reading = fixed(plant), fixed(start), fixed(reading)
    first, between, last = all_steps(plant, start, reading)
    best = best_way((first, between, last))
    if best is None:
        return ()
    hands = best[2]
    tick = first[hands[0]]
    gauge = least_wires([idle_run(plant, start)], plant[1][hands[0]][1], tick)[1]
    found = []
    for hand, other in zip(hands, hands[1:]):
        delay = between[(hand, other)]
        lever, coming = least_wires(lever_runs(plant, hand), plant[1][other][1], delay)
        found.append((hand, lever, gauge, tick))
        gauge, tick = coming, tick + delay + 1
    lever = least_wires(lever_runs(plant, hands[-1]), (reading,), last[hands[-1]])[0]
    found.append((hands[-1], lever, gauge, tick))
    return tuple(found)


def least_wires(runs, rows, delay):
    """The least pair of places of a run and of a ROW that shows other than 0 of it at this delay."""
    pairs = [
        (place, number) for place, run in enumerate(runs) for number, row in enumerate(rows)
        if shows_some((row,), run[delay])
    ]
    return min(pairs)

"""What hands can learn: who hears of whom, what of the CELLS can be known, and which WIRES must be cut."""

from handsunread.basics import NONE, ONE, fixed, is_ascending, is_fraction, is_number, is_row, none_row, share_of
from handsunread.plants import KINDS, check_hand, check_wire, gauges_of, is_wire, wires_of
from handsunread.spaces import kept_with, zeros_of
from handsunread.sure import is_sure
from handsunread.tables import flipped, row_applied, row_read, row_sum, row_times, shows_some, solved
from handsunread.ways import backwards, idle_run, links, spread

# The two ends of all TRAILS; no WIRE is called so.
BEGIN = "begin"
END = "end"


def hears(plant, hand):
    plant = fixed(plant)
    check_hand(plant, hand)
    return led_to(hand, backwards(links(plant)))


def heard_by(plant, hand):
    plant = fixed(plant)
    check_hand(plant, hand)
    return led_to(hand, links(plant))


def led_to(hand, pairs):
    """The set of all that pairs (hand, other) lead to from the hand, in one step at least."""
    return spread([other for one, other in pairs if one == hand], pairs)


def own_sums(plant, hand):
    plant = fixed(plant)
    check_hand(plant, hand)
    return sums_of(plant, (hand,))


def sums_of(plant, hands):
    """The SPACE of the READINGS that all gauges of these hands show of the CELLS at first, and their sums."""
    return kept_with(flipped(plant[0]), gauges_of(plant, hands))


def tellers(plant, hand):
    """The set of the hand and of those that it hears."""
    return tuple(sorted(set(hears(plant, hand) + (hand,))))


def open_sums(plant, hand):
    plant = fixed(plant)
    return sums_of(plant, tellers(plant, hand))


def silent(plant, hand):
    return zeros_of(open_sums(plant, hand), len(plant[0]))


def open_shows(plant, hand):
    """By each triple (hand, gauge, tick) what it shows then of the CELLS at first; ascending."""
    found = {}
    for one in tellers(plant, hand):
        for number, gauge in enumerate(plant[1][one][1]):
            row = gauge
            for tick in range(len(plant[0])):
                found[(one, number, tick)] = row
                row = row_read(row, plant[0])
    return found


def knowing(plant, hand, reading):
    plant, reading = fixed(plant), fixed(reading)
    shows = open_shows(plant, hand)
    if not shows:
        # A TABLE without columns does not tell to which length of ROW it leads.
        return None if shows_some((reading,), reading) else ()
    parts = solved(flipped([shows[place] for place in shows]), reading)
    if parts is None:
        return None
    return tuple([place + (part,) for place, part in zip(shows, parts) if part != NONE])


def is_knowing(plant, hand, reading, thing):
    plant, reading = fixed(plant), fixed(reading)
    shows = open_shows(plant, hand)
    if not isinstance(thing, tuple) or not all([is_show(shows, part) for part in thing]):
        return False
    if not is_ascending([part[:3] for part in thing]):
        return False
    found = none_row(len(reading))
    for part in thing:
        found = row_sum(found, row_times(shows[part[:3]], part[3]))
    return found == reading


def is_show(shows, thing):
    """Whether thing is a quadruple of a gauge and a tick that are there, and of a FRACTION but 0."""
    if not isinstance(thing, tuple) or len(thing) != 4 or not all([is_number(part) for part in thing[:3]]):
        return False
    return thing[:3] in shows and is_fraction(thing[3]) and thing[3] != NONE


def hiding(plant, hand, reading):
    reading = fixed(reading)
    for row in silent(plant, hand):
        much = row_applied((reading,), row)[0]
        if much != NONE:
            return row_times(row, share_of(ONE, much))
    return None


def is_hiding(plant, hand, reading, thing):
    reading = fixed(reading)
    sums = open_sums(plant, hand)
    if not is_row(thing, len(reading)) or shows_some(sums, thing):
        return False
    return row_applied((reading,), thing) == (ONE,)


def cut(plant, wires):
    plant, wires = fixed(plant), fixed(wires)
    for wire in wires:
        check_wire(plant, wire)
    hands = []
    for hand, (levers, gauges) in enumerate(plant[1]):
        hands.append((put_out(levers, hand, "lever", wires), put_out(gauges, hand, "gauge", wires)))
    return plant[0], tuple(hands)


def put_out(rows, hand, word, wires):
    """The ROWS of the hand of this kind, those that are among the WIRES put to 0."""
    return tuple([
        none_row(len(row)) if (hand, word, number) in wires else row for number, row in enumerate(rows)
    ])


def gauges_at(plant, run):
    """The gauges, as WIRES, that show other than 0 of some CELLS of the run."""
    return [wire for wire in wires_of(plant) if wire[1] == "gauge" and shows_some(run, row_of(plant, wire))]


def row_of(plant, wire):
    hand, word, number = wire
    return plant[1][hand][KINDS[word]][number]


def own_wires(plant, hand, word):
    """The WIRES of the hand of this kind."""
    return [wire for wire in wires_of(plant) if wire[0] == hand and wire[1] == word]


def lines_between(plant):
    """By each WIRE those that may come behind it in a TRAIL."""
    found = {}
    for wire in wires_of(plant):
        if wire[1] == "gauge":
            found[wire] = own_wires(plant, wire[0], "lever")
        else:
            found[wire] = gauges_at(plant, idle_run(plant, row_of(plant, wire)))
    return found


def trail_lines(plant, start, reading):
    """The WIRES that a TRAIL may begin with, by each WIRE those behind it, and those to end with."""
    begins = gauges_at(plant, idle_run(plant, start))
    ends = [
        wire for wire in wires_of(plant)
        if wire[1] == "lever" and shows_some(idle_run(plant, row_of(plant, wire)), reading)
    ]
    return begins, lines_between(plant), ends


def follows(plant, lines, thing):
    """Whether thing is a TRAIL by these lines."""
    if not isinstance(thing, tuple) or not thing or not all([is_wire(plant, part) for part in thing]):
        return False
    if not is_ascending(sorted(thing)):
        return False
    begins, nexts, ends = lines
    if thing[0] not in begins or thing[-1] not in ends:
        return False
    return all([other in nexts[one] for one, other in zip(thing, thing[1:])])


def is_trail(plant, start, reading, thing):
    plant, start, reading = fixed(plant), fixed(start), fixed(reading)
    return follows(plant, trail_lines(plant, start, reading), thing)


def roads(lines):
    """By each node those it leads to. A WIRE is two of them with one road between: so it is in one TRAIL."""
    begins, nexts, ends = lines
    found = {BEGIN: [(one, 0) for one in begins], END: []}
    for wire in nexts:
        found[(wire, 0)] = [(wire, 1)]
        found[(wire, 1)] = [(other, 0) for other in nexts[wire]]
        if wire in ends:
            found[(wire, 1)].append(END)
    return found


def free_road(board):
    """The nodes of a shortest road from BEGIN to END; () if there is none."""
    ahead, fresh = {BEGIN: BEGIN}, [BEGIN]
    while fresh and END not in ahead:
        node = fresh.pop(0)
        coming = [other for other in board[node] if other not in ahead]
        for other in coming:
            ahead[other] = node
        fresh.extend(coming)
    if END not in ahead:
        return ()
    found = [END]
    while found[-1] != BEGIN:
        found.append(ahead[found[-1]])
    return tuple(found[::-1])


def taken_roads(lines):
    """The pair (board, many): the roads once as many TRAILS as can be are taken, and how many these are.

    A road that is taken leads back, so that a later TRAIL may give it another turn.
    """
    board, many = roads(lines), 0
    nodes = free_road(board)
    while nodes:
        for one, other in zip(nodes, nodes[1:]):
            board[one].remove(other)
            board[other].append(one)
        many += 1
        nodes = free_road(board)
    return board, many


def most_trails(plant, start, reading):
    plant, start, reading = fixed(plant), fixed(start), fixed(reading)
    begins, nexts, ends = trail_lines(plant, start, reading)
    board = taken_roads((begins, nexts, ends))[0]
    return tuple(sorted([trail_from(board, nexts, wire) for wire in begins if BEGIN in board[(wire, 0)]]))


def trail_from(board, nexts, wire):
    """The TRAIL that is taken through this WIRE, from there on."""
    last, found = wire, [wire]
    while (last, 1) not in board[END]:
        # Of the roads out of a WIRE just one is taken.
        coming = [other for other in nexts[last] if (last, 1) in board[(other, 0)]]
        last = coming[0]
        found.append(last)
    return tuple(found)


def is_most_trails(plant, start, reading, thing):
    plant, start, reading = fixed(plant), fixed(start), fixed(reading)
    lines = trail_lines(plant, start, reading)
    if not isinstance(thing, tuple) or not all([follows(plant, lines, part) for part in thing]):
        return False
    if not is_ascending(thing) or not is_ascending(sorted([wire for trail in thing for wire in trail])):
        return False
    return len(thing) == taken_roads(lines)[1]


def is_cut(plant, start, reading, thing):
    plant = fixed(plant)
    if not isinstance(thing, tuple) or not all([is_wire(plant, part) for part in thing]):
        return False
    return is_ascending(thing) and is_sure(cut(plant, thing), start, reading)


def without_wire_in(lines, wire):
    """The lines that are left when the WIRE is cut."""
    begins, nexts, ends = lines
    left = {one: [other for other in nexts[one] if other != wire] for one in nexts if one != wire}
    return [one for one in begins if one != wire], left, [one for one in ends if one != wire]


def least_cut(lines):
    """The least set of WIRES without which no TRAIL is left."""
    many = taken_roads(lines)[1]
    found = []
    for wire in sorted(lines[1]):
        left = without_wire_in(lines, wire)
        # As many WIRES must be cut as there are TRAILS: one is of use if it takes one away.
        if taken_roads(left)[1] < many:
            found.append(wire)
            lines, many = left, many - 1
    return tuple(found)


def fewest_cut(plant, start, reading):
    plant, start, reading = fixed(plant), fixed(start), fixed(reading)
    return least_cut(trail_lines(plant, start, reading))


def fewest_deaf(plant, hand, other):
    plant = fixed(plant)
    check_hand(plant, hand)
    check_hand(plant, other)
    return least_cut((own_wires(plant, other, "lever"), lines_between(plant), own_wires(plant, hand, "gauge")))

"""PLANTS: a table of cells, and hands with levers and gauges at it; the whole of RULES."""

from handsunread.basics import NONE, ONE, fixed, is_number, is_places, is_row, none_row
from handsunread.errors import NoHand, NoWire, Unfit
from handsunread.tables import flipped, inverse, is_table, row_applied, row_read, row_sum, table_product

# At which place of a HAND the wires of each kind stand.
KINDS = {"lever": 0, "gauge": 1}


def is_plant(thing):
    if not isinstance(thing, tuple) or len(thing) != 2:
        return False
    table, hands = thing
    if not isinstance(table, tuple) or not isinstance(hands, tuple):
        return False
    many = len(table)
    if many == 0 or not is_table(table, many, many):
        return False
    return all([is_hand(hand, many) for hand in hands])


def is_hand(thing, many):
    """Whether thing is a HAND at so many cells."""
    if not isinstance(thing, tuple) or len(thing) != 2:
        return False
    if not isinstance(thing[0], tuple) or not isinstance(thing[1], tuple):
        return False
    return all([is_row(row, many) for row in thing[0] + thing[1]])


def hand_sizes(plant):
    return tuple([(len(levers), len(gauges)) for levers, gauges in plant[1]])


def sizes(plant):
    return hand_sizes(fixed(plant))


def check_hand(plant, hand):
    """Raises NoHand for a number that is no hand of the PLANT."""
    if not 0 <= hand < len(plant[1]):
        raise NoHand(hand)


def check_lot(plant, lot):
    """Raises NoHand for the first of these numbers that is no hand of the PLANT."""
    for hand in lot:
        check_hand(plant, hand)


def check_wire(plant, wire):
    """Raises NoHand, then NoWire for a WIRE that the PLANT does not have."""
    hand, word, number = wire
    check_hand(plant, hand)
    if word not in KINDS or not 0 <= number < len(plant[1][hand][KINDS[word]]):
        raise NoWire(wire)


def is_lot(plant, thing):
    """Whether thing is a set of hands of the PLANT."""
    return is_places(thing, len(plant[1]))


def all_hands(plant):
    return tuple(range(len(plant[1])))


def levers_of(plant, lot):
    """All levers of these hands, hand by hand."""
    return tuple([lever for hand in lot for lever in plant[1][hand][0]])


def gauges_of(plant, lot):
    """All gauges of these hands, hand by hand."""
    return tuple([gauge for hand in lot for gauge in plant[1][hand][1]])


def others_than(plant, lot):
    """The set of the hands that are not in the lot."""
    return tuple([hand for hand in range(len(plant[1])) if hand not in lot])


def is_wire(plant, thing):
    """Whether thing is a WIRE that the PLANT has."""
    if not isinstance(thing, tuple) or len(thing) != 3:
        return False
    # True and False are no numbers, but equal to some.
    if not is_number(thing[0]) or not is_number(thing[2]):
        return False
    return thing in wires_of(plant)


def wires(plant):
    return wires_of(fixed(plant))


def wires_of(plant):
    """The set of all WIRES, of a PLANT that is tuples throughout already."""
    found = []
    for hand, (levers, gauges) in enumerate(plant[1]):
        # Ascending by the words, too.
        found.extend([(hand, "gauge", number) for number in range(len(gauges))])
        found.extend([(hand, "lever", number) for number in range(len(levers))])
    return tuple(found)


def wire_row(plant, wire):
    plant, wire = fixed(plant), fixed(wire)
    check_wire(plant, wire)
    hand, word, number = wire
    return plant[1][hand][KINDS[word]][number]


def is_rules(plant, thing):
    plant = fixed(plant)
    if not isinstance(thing, tuple) or len(thing) != len(plant[1]):
        return False
    return all([is_table(rule, levers, gauges) for (levers, gauges), rule in zip(hand_sizes(plant), thing)])


def idle(plant):
    plant = fixed(plant)
    return tuple([(none_row(gauges),) * levers for levers, gauges in hand_sizes(plant)])


def all_rules(plant):
    plant = fixed(plant)
    return [rules_of(plant, line) for line in all_lines(entries_of(plant))]


def entries_of(plant):
    """How many FRACTIONS stand in RULES, those of all hands together."""
    return sum([levers * gauges for levers, gauges in hand_sizes(plant)])


def all_lines(many):
    """The ascending list of all ROWS of so many (0, 1) and (1, 1)."""
    found = [()]
    for _ in range(many):
        found = [line + (entry,) for line in found for entry in (NONE, ONE)]
    return found


def rules_of(plant, line):
    """The RULES with the FRACTIONS of line, hand by hand, lever by lever."""
    found, begin = [], 0
    for levers, gauges in hand_sizes(plant):
        rule = []
        for _ in range(levers):
            rule.append(line[begin:begin + gauges])
            begin += gauges
        found.append(tuple(rule))
    return tuple(found)


def whole(plant, rules):
    plant, rules = fixed(plant), fixed(rules)
    table = plant[0]
    for (levers, gauges), rule in zip(plant[1], rules):
        if levers and gauges:
            coming = table_product(flipped(levers), table_product(rule, gauges))
            table = tuple([row_sum(row, more) for row, more in zip(table, coming)])
    return table


def renamed(plant, places):
    plant, places = fixed(plant), fixed(places)
    many = len(plant[0])
    if sorted(places) != list(range(many)):
        raise Unfit()
    order = [places.index(cell) for cell in range(many)]
    table = rows_in_order([plant[0][cell] for cell in order], order)
    hands = [(rows_in_order(levers, order), rows_in_order(gauges, order)) for levers, gauges in plant[1]]
    return table, tuple(hands)


def rows_in_order(rows, order):
    """The ROWS with their places in this order."""
    return tuple([tuple([row[place] for place in order]) for row in rows])


def based(plant, base):
    plant, base = fixed(plant), fixed(base)
    many = len(plant[0])
    if not is_table(base, many, many):
        raise Unfit()
    undone = inverse(base)
    hands = []
    for levers, gauges in plant[1]:
        moved = tuple([row_applied(base, row) for row in levers])
        hands.append((moved, tuple([row_read(row, undone) for row in gauges])))
    return table_product(table_product(base, plant[0]), undone), tuple(hands)


def turned_about(plant):
    plant = fixed(plant)
    return flipped(plant[0]), tuple([(gauges, levers) for levers, gauges in plant[1]])


def only_hands(plant, lot):
    plant, lot = fixed(plant), fixed(lot)
    check_lot(plant, lot)
    return plant[0], tuple([plant[1][hand] for hand in lot])


def joined_hands(plant, lot):
    plant, lot = fixed(plant), fixed(lot)
    check_lot(plant, lot)
    if not lot:
        raise Unfit()
    hands = []
    for hand, own in enumerate(plant[1]):
        if hand == lot[0]:
            hands.append((levers_of(plant, lot), gauges_of(plant, lot)))
        elif hand not in lot:
            hands.append(own)
    return plant[0], tuple(hands)

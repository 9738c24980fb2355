"""PLANTS put together, wires made late, and the PIECES that a PLANT falls into."""

from handsunread.basics import NONE, fixed, is_places, none_row, unit_row
from handsunread.plants import KINDS, all_hands, check_lot, check_wire, is_lot
from handsunread.polys import poly_product
from handsunread.staying import stay
from handsunread.tables import check_places
from handsunread.ways import backwards, spread


def beside(plant, other):
    plant, other = fixed(plant), fixed(other)
    many, more = len(plant[0]), len(other[0])
    return round_about(plant, other, (none_row(many),) * more, (none_row(more),) * many)


def in_row(plant, other, link):
    plant, other = fixed(plant), fixed(other)
    return round_about(plant, other, link, (none_row(len(other[0])),) * len(plant[0]))


def round_about(plant, other, link, back):
    plant, other, link, back = fixed(plant), fixed(other), fixed(link), fixed(back)
    many, more = len(plant[0]), len(other[0])
    above = [row + coming for row, coming in zip(plant[0], back)]
    below = [coming + row for coming, row in zip(link, other[0])]
    first = [(between(0, levers, more), between(0, gauges, more)) for levers, gauges in plant[1]]
    last = [(between(many, levers, 0), between(many, gauges, 0)) for levers, gauges in other[1]]
    return tuple(above + below), tuple(first + last)


def between(ahead, rows, behind):
    """The ROWS with so many 0 ahead of each and so many behind it."""
    return tuple([none_row(ahead) + row + none_row(behind) for row in rows])


def late_gauge(plant, hand, number):
    plant = fixed(plant)
    check_wire(plant, (hand, "gauge", number))
    gauge = plant[1][hand][1][number]
    table = between(0, plant[0] + (gauge,), 1)
    return table, with_last_cell(plant, (hand, "gauge", number))


def with_last_cell(plant, wire):
    """The hands with one cell more, the last one, at which the WIRE alone now is."""
    hand, word, number = wire
    hands = []
    for levers, gauges in plant[1]:
        hands.append([list(between(0, levers, 1)), list(between(0, gauges, 1))])
    many = len(plant[0])
    hands[hand][KINDS[word]][number] = unit_row(many + 1, many)
    return tuple([(tuple(levers), tuple(gauges)) for levers, gauges in hands])


def late_lever(plant, hand, number):
    plant = fixed(plant)
    check_wire(plant, (hand, "lever", number))
    lever = plant[1][hand][0][number]
    table = [row + (part,) for row, part in zip(plant[0], lever)]
    table.append(none_row(len(plant[0]) + 1))
    return tuple(table), with_last_cell(plant, (hand, "lever", number))


def part_of(plant, cells, hands):
    plant, cells, hands = fixed(plant), fixed(cells), fixed(hands)
    check_lot(plant, hands)
    check_places(cells, len(plant[0]))
    table = cut_to([plant[0][cell] for cell in cells], cells)
    own = [plant[1][hand] for hand in hands]
    return table, tuple([(cut_to(levers, cells), cut_to(gauges, cells)) for levers, gauges in own])


def cut_to(rows, cells):
    """The ROWS with their places at these cells alone."""
    return tuple([tuple([row[cell] for cell in cells]) for row in rows])


def touched(plant, hand):
    """The set of the cells that the hand touches."""
    rows = plant[1][hand][0] + plant[1][hand][1]
    return tuple([cell for cell in range(len(plant[0])) if any([row[cell] != NONE for row in rows])])


def lines_of(plant):
    """The set of pairs (cell, other) such that the other one stands in no earlier PIECE than the cell."""
    cells = range(len(plant[0]))
    found = [(cell, other) for other in cells for cell in cells if plant[0][other][cell] != NONE]
    for hand in all_hands(plant):
        # The cells that a hand touches stand in one PIECE: each leads to the next one, and back.
        own = touched(plant, hand)
        pairs = list(zip(own, own[1:]))
        found = found + pairs + backwards(pairs)
    return sorted(set(found))


def pieces_of(plant):
    """The PIECES, as small as can be, in no order."""
    pairs = lines_of(plant)
    cells = range(len(plant[0]))
    led = [spread((cell,), pairs) for cell in cells]
    found = sorted(set([tuple([other for other in led[cell] if cell in led[other]]) for cell in cells]))
    own = [touched(plant, hand) for hand in all_hands(plant)]
    pieces = [((), (hand,)) for hand in all_hands(plant) if not own[hand]]
    for places in found:
        lot = tuple([hand for hand in all_hands(plant) if own[hand] and own[hand][0] in places])
        pieces.append((places, lot))
    return pieces


def acts(plant, piece, other):
    """Whether a cell of the one PIECE acts on one of the other PIECE."""
    return any([plant[0][place][cell] != NONE for place in other[0] for cell in piece[0]])


def pieces_in_row(plant):
    plant = fixed(plant)
    left, found = pieces_of(plant), []
    while left:
        free = [piece for piece in left if not any([acts(plant, other, piece) for other in left if other != piece])]
        found.append(min(free))
        left = [piece for piece in left if piece != found[-1]]
    return tuple(found)


def is_piece(plant, thing):
    """Whether thing is a pair of a set of cells and a lot, not both ()."""
    if not isinstance(thing, tuple) or len(thing) != 2 or thing == ((), ()):
        return False
    return is_places(thing[0], len(plant[0])) and is_lot(plant, thing[1])


def is_in_row(plant, thing):
    plant = fixed(plant)
    if not isinstance(thing, tuple) or not all([is_piece(plant, piece) for piece in thing]):
        return False
    every = [cell for piece in thing for cell in piece[0]]
    hands = [hand for piece in thing for hand in piece[1]]
    if sorted(every) != list(range(len(plant[0]))) or sorted(hands) != list(all_hands(plant)):
        return False
    for place, (cells, lot) in enumerate(thing):
        if not all([cell in cells for hand in lot for cell in touched(plant, hand)]):
            return False
        if any([acts(plant, thing[place], ahead) for ahead in thing[:place]]):
            return False
    return True


def stay_by_pieces(plant):
    plant = fixed(plant)
    return poly_product([stay(part_of(plant, cells, lot)) for cells, lot in pieces_in_row(plant) if cells])

"""What stays in sight FOR ALL PROGRAMS: closed lots, and what the table does beside them."""

from handsunread.basics import all_places, fixed
from handsunread.errors import Unfit
from handsunread.plants import check_lot, levers_of, others_than
from handsunread.polys import have_common, least_common, table_poly
from handsunread.spaces import is_in, kept_with, over, rest_of, zeros_of
from handsunread.sure import hidden_from
from handsunread.tables import leads, rest_off, row_applied
from handsunread.ways import links, spread


def moved_by(plant, lot):
    plant, lot = fixed(plant), fixed(lot)
    check_lot(plant, lot)
    return kept_with(plant[0], levers_of(plant, lot))


def unseen_beside(plant, lot):
    plant, lot = fixed(plant), fixed(lot)
    check_lot(plant, lot)
    return hidden_from(plant, others_than(plant, lot))


def closed_by(pairs, lot):
    """Whether none of the pairs (hand, other) leads out of the lot."""
    return all([other in lot for hand, other in pairs if hand in lot])


def is_closed(plant, lot):
    plant, lot = fixed(plant), fixed(lot)
    check_lot(plant, lot)
    return closed_by(links(plant), lot)


def closed_lots(plant):
    plant = fixed(plant)
    pairs = links(plant)
    return [lot for lot in all_places(len(plant[1])) if closed_by(pairs, lot)]


def lot_from(plant, lot):
    plant, lot = fixed(plant), fixed(lot)
    check_lot(plant, lot)
    return spread(lot, links(plant))


def lot_spaces(plant, lot):
    """The pair of what is unseen beside the lot and of what it moves."""
    return hidden_from(plant, others_than(plant, lot)), kept_with(plant[0], levers_of(plant, lot))


def closed_spaces(plant, lot):
    """The same; raises NoHand, then Unfit for a lot that is not closed."""
    if not is_closed(plant, lot):
        raise Unfit()
    return lot_spaces(plant, lot)


def sight_spaces(plant, lot):
    plant, lot = fixed(plant), fixed(lot)
    unseen, moved = closed_spaces(plant, lot)
    return unseen, zeros_of(moved, len(plant[0]))


def sight_table(plant, lot):
    plant, lot = fixed(plant), fixed(lot)
    unseen, moved = closed_spaces(plant, lot)
    return over(plant[0], unseen, moved)


def sight_poly(plant, lot):
    return table_poly(sight_table(plant, lot))


def closed_polys(plant):
    """By each closed lot the poly of its sight."""
    found = {}
    for lot in closed_lots(plant):
        unseen, moved = lot_spaces(plant, lot)
        found[lot] = table_poly(over(plant[0], unseen, moved))
    return found


def sight(plant):
    found = closed_polys(fixed(plant))
    return least_common([found[lot] for lot in found])


def in_sight(plant, tone):
    return have_common(sight(plant), fixed(tone))


def lots_showing(plant, tone):
    found, tone = closed_polys(fixed(plant)), fixed(tone)
    return [lot for lot in found if have_common(found[lot], tone)]


def part_in_sight(plant, lot, start):
    plant, lot, start = fixed(plant), fixed(lot), fixed(start)
    unseen, moved = closed_spaces(plant, lot)
    if not is_in(unseen, start):
        raise Unfit()
    # What is moved is taken off; the rest is told by the leading ones that are not those of moved.
    left = rest_off(moved, start)
    return tuple([left[place] for place in leads(rest_of(unseen, moved))])


def next_in_sight(plant, lot, row):
    return row_applied(sight_table(plant, lot), fixed(row))

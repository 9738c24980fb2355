"""Plants put together [20]."""

import unittest
from fractions import Fraction
from itertools import permutations

from handsunread.beside import (
    beside, in_row, is_in_row, late_gauge, late_lever, part_of, pieces_in_row, round_about, stay_by_pieces,
)
from handsunread.errors import NoHand, NoNumber, NoWire
from handsunread.plants import is_plant, turned_about, wires
from handsunread.staying import stay
from handsunread.sure import is_sure
from handsunread.ways import links
from tests.own import (
    OTHER_THINGS, asked, dice, great_table, is_none_spoiled, numbers, own_product, poly, refused, rooted, row, spoiled,
    table, thin_row, thin_table,
)
from tests.test_partings import small_plants
from tests.test_plants import LONE, MIXED
from tests.test_staying import own_stay

# The examples of the document.
NEAR = (table((2,)), ((table((1,)), table((1,))),))
BLIND = (table((3,)), ((table((1,)), ()),))
ROW = (table((2, 0), (5, 3)), ((table((1, 0)), table((1, 0))), (table((0, 1)), ())))
AROUND = (table((2, 1), (5, 3)), ROW[1])
# Two cells that act on each other, one that is acted on, one apart; hands at two, at one, at none, with no wires.
PARTS = (
    table((0, 1, 0, 0), (1, 0, 0, 0), (0, 1, 2, 0), (0, 0, 0, 3)),
    (
        (table((0, 0, 1, 0)), ()), (table((0, 0, 0, 0)), table((0, 0, 0, 0))), (table((1, 0, 0, 0)), table((0, 0, 0, 0))),
        ((), ()),
    ),
)
PARTS_ROW = (((), (1,)), ((), (3,)), ((0, 1), (2,)), ((2,), (0,)), ((3,), ()))


def both(die):
    """Two PLANTS of together at most 4 cells and 3 hands, with at most 5 entries, and ROWS between them."""
    (_, plant), (_, other) = small_plants(die.randint(0, 10 ** 6), 2, most_cells=2, most_hands=2, most=1, entries=2)
    many, more = len(plant[0]), len(other[0])
    return plant, other, thin_table(die, more, many, 2), thin_table(die, many, more, 2)


def own_together(plant, other, link, back):
    many, more = len(plant[0]), len(other[0])
    rows = [line + extra for line, extra in zip(plant[0], back)] + [extra + line for extra, line in zip(link, other[0])]
    hands = [
        tuple(tuple(line + row(*[0] * more) for line in rows_of) for rows_of in hand) for hand in plant[1]
    ] + [tuple(tuple(row(*[0] * many) + line for line in rows_of) for rows_of in hand) for hand in other[1]]
    return tuple(rows), tuple(hands)


def own_touches(plant, hand, cell):
    levers, gauges = plant[1][hand]
    return any(line[cell][0] for line in levers + gauges)


def own_led(plant):
    """By each cell all cells to which it leads on, over cells that act and hands that touch, itself too."""
    cells = range(len(plant[0]))
    found = [[
        one == other or bool(plant[0][other][one][0])
        or any(own_touches(plant, hand, one) and own_touches(plant, hand, other) for hand in range(len(plant[1])))
        for other in cells
    ] for one in cells]
    for by in cells:
        found = [[found[one][other] or found[one][by] and found[by][other] for other in cells] for one in cells]
    return found


def own_pieces(plant):
    """The smallest PIECES, by all that lead to each other; a hand that touches nothing by itself."""
    led, cells = own_led(plant), range(len(plant[0]))
    found = {tuple(other for other in cells if led[cell][other] and led[other][cell]) for cell in cells}
    pieces = []
    for places in found:
        pieces.append((places, tuple(
            hand for hand in range(len(plant[1])) if any(own_touches(plant, hand, cell) for cell in places)
        )))
    for hand in range(len(plant[1])):
        if not any(own_touches(plant, hand, cell) for cell in cells):
            pieces.append(((), (hand,)))
    return pieces


def own_fits(plant, pieces):
    """Whether no cell acts on one of an earlier PIECE and no hand touches a cell of another one."""
    for place, (cells, hands) in enumerate(pieces):
        for other in pieces[:place]:
            if any(plant[0][one][cell][0] for one in other[0] for cell in cells):
                return False
        if any(own_touches(plant, hand, cell) for hand in hands for cell in range(len(plant[0])) if cell not in cells):
            return False
    return True


def own_in_row(plant):
    """Of all orders that fit the least: so each time the least that can be first is."""
    return min(order for order in permutations(own_pieces(plant)) if own_fits(plant, order))


def joined(one, other):
    """Two PIECES as one."""
    return tuple(sorted(one[0] + other[0])), tuple(sorted(one[1] + other[1]))


class Together(unittest.TestCase):
    def test_round_about(self):
        die = dice(260)
        for _ in range(40):
            plant, other, link, back = both(die)
            none = (row(*[0] * len(other[0])),) * len(plant[0])
            nothing = (row(*[0] * len(plant[0])),) * len(other[0])
            self.assertEqual(asked(self, round_about, plant, other, link, back), own_together(plant, other, link, back))
            self.assertEqual(asked(self, in_row, plant, other, link), own_together(plant, other, link, none))
            self.assertEqual(asked(self, beside, plant, other), own_together(plant, other, nothing, none))
            self.assertIs(is_plant(round_about(plant, other, link, back)), True)

    def test_edges(self):
        self.assertEqual(asked(self, in_row, NEAR, BLIND, table((5,))), ROW)
        self.assertEqual(asked(self, round_about, NEAR, BLIND, table((5,)), table((1,))), AROUND)
        self.assertEqual(asked(self, beside, LONE, LONE), (table((2, 0), (0, 2)), ()))
        self.assertEqual(
            asked(self, beside, LONE, (table((7,)), (((), ()),))), (table((2, 0), (0, 7)), (((), ()),))
        )
        wide = (table((1, 2), (3, 4)), ())
        self.assertEqual(
            asked(self, round_about, wide, LONE, table((5, 6)), table((7,), (8,))), (table((1, 2, 7), (3, 4, 8), (5, 6, 2)), ())
        )
        self.assertEqual(
            asked(self, round_about, LONE, wide, table((7,), (8,)), table((5, 6))), (table((2, 5, 6), (7, 1, 2), (8, 3, 4)), ())
        )
        die = dice(261)
        plant, other = (great_table(die, 2, 2), ()), (great_table(die, 3, 3), ((great_table(die, 1, 3), ()),))
        link, back = great_table(die, 3, 2), great_table(die, 2, 3)
        self.assertEqual(asked(self, round_about, plant, other, link, back), own_together(plant, other, link, back))

    def test_the_stay_is_the_product(self):
        die, held = dice(262), 0
        for _ in range(30):
            plant, other, link, _ = both(die)
            told = row(*own_product(own_stay(plant), own_stay(other)))
            self.assertEqual(stay(beside(plant, other)), told)
            self.assertEqual(stay(in_row(plant, other, link)), told)
            self.assertEqual(stay_by_pieces(in_row(plant, other, link)), told)
            held += len(told) > 1
        self.assertGreater(held, 10)

    def test_turned_about(self):
        for die, plant in small_plants(263, 30, entries=4):
            about = turned_about(plant)
            self.assertEqual(stay(about), stay(plant))
            for _ in range(4):
                start, reading = thin_row(die, len(plant[0])), thin_row(die, len(plant[0]))
                self.assertIs(is_sure(plant, start, reading), is_sure(about, reading, start))


class Late(unittest.TestCase):
    def own_late(self, plant, wire):
        hand, word, number = wire
        many, own = len(plant[0]), plant[1][wire[0]][("lever", "gauge").index(wire[1])][number]
        wide = [[list(line) + [(0, 1)] for line in rows] for levers_gauges in plant[1] for rows in levers_gauges]
        hands = [[wide[2 * at], wide[2 * at + 1]] for at in range(len(plant[1]))]
        hands[hand][("lever", "gauge").index(word)][number] = [(0, 1)] * many + [(1, 1)]
        if word == "gauge":
            rows = [list(line) + [(0, 1)] for line in plant[0]] + [list(own) + [(0, 1)]]
        else:
            rows = [list(line) + [part] for line, part in zip(plant[0], own)] + [[(0, 1)] * (many + 1)]
        return (
            tuple(tuple(line) for line in rows),
            tuple(tuple(tuple(tuple(line) for line in part) for part in pair) for pair in hands),
        )

    def test_late(self):
        same = 0
        for die, plant in small_plants(264, 40, entries=3):
            for wire in wires(plant):
                hand, word, number = wire
                late = late_gauge if word == "gauge" else late_lever
                found = asked(self, late, plant, hand, number)
                self.assertEqual(found, self.own_late(plant, wire))
                self.assertIs(is_plant(found), True)
                # The stay is the same, or x times as much.
                held = numbers(stay(plant))
                self.assertIn(numbers(stay(found)), [held, own_product([0, 1], held)])
                same += numbers(stay(found)) == held
                start, reading = thin_row(die, len(plant[0])), thin_row(die, len(plant[0]))
                self.assertIs(
                    is_sure(found, start + ((0, 1),), reading + ((0, 1),)), is_sure(plant, start, reading)
                )
        self.assertGreater(same, 10)

    def test_edges(self):
        self.assertEqual(
            asked(self, late_gauge, NEAR, 0, 0), (table((2, 0), (1, 0)), ((table((1, 0)), table((0, 1))),))
        )
        self.assertEqual(
            asked(self, late_lever, NEAR, 0, 0), (table((2, 1), (0, 0)), ((table((0, 1)), table((1, 0))),))
        )
        self.assertEqual(
            asked(self, late_lever, MIXED, 0, 1)[0], table((1, 2, 0), (0, Fraction(1, 2), 3), (0, 0, 0))
        )
        self.assertEqual(asked(self, late_lever, MIXED, 0, 1)[1][0], (table((1, 0, 0), (0, 0, 1)), table((0, 1, 0))))
        self.assertEqual(asked(self, late_gauge, MIXED, 2, 1)[1][2], ((), table((1, -1, 0), (0, 0, 1))))
        for late, word in ((late_gauge, "gauge"), (late_lever, "lever")):
            for hand in (4, -1):
                refused(self, NoHand, {"hand": hand}, late, MIXED, hand, 0)
            refused(self, NoHand, {"hand": 0}, late, LONE, 0, 5)
            for number in (2, -1):
                refused(self, NoWire, {"wire": (0, word, number)}, late, MIXED, 0, number)
            refused(self, NoWire, {"wire": (3, word, 0)}, late, MIXED, 3, 0)
        refused(self, NoWire, {"wire": (1, "gauge", 0)}, late_gauge, MIXED, 1, 0)
        refused(self, NoWire, {"wire": (2, "lever", 0)}, late_lever, MIXED, 2, 0)


class Pieces(unittest.TestCase):
    def test_part_of(self):
        for die, plant in small_plants(265, 40):
            many, hands = len(plant[0]), len(plant[1])
            cells = tuple(sorted(die.sample(range(many), die.randint(1, many))))
            lot = tuple(sorted(die.sample(range(hands), die.randint(0, hands))))
            found = asked(self, part_of, plant, cells, lot)
            self.assertIs(is_plant(found), True)
            self.assertEqual(found[0], tuple(tuple(plant[0][one][other] for other in cells) for one in cells))
            self.assertEqual(found[1], tuple(
                tuple(tuple(tuple(line[cell] for cell in cells) for line in rows) for rows in plant[1][hand]) for hand in lot
            ))
        self.assertEqual(asked(self, part_of, ROW, (1,), (1,)), BLIND)
        self.assertEqual(asked(self, part_of, ROW, (0,), ()), (table((2,)), ()))
        self.assertEqual(asked(self, part_of, ROW, (0, 1), (0, 1)), ROW)
        self.assertEqual(asked(self, part_of, ROW, (0,), (1,)), (table((2,)), ((table((0,)), ()),)))
        refused(self, NoHand, {"hand": 2}, part_of, ROW, (5,), (0, 2))
        refused(self, NoHand, {"hand": -1}, part_of, ROW, (0,), (-1, 3))
        refused(self, NoNumber, {"number": 2}, part_of, ROW, (0, 2, 3), (0,))
        refused(self, NoNumber, {"number": -1}, part_of, ROW, (-1, 0), ())

    def test_pieces_in_row(self):
        shapes = set()
        for die, plant in small_plants(266, 150, most_cells=4, most_hands=4):
            told = own_in_row(plant)
            self.assertEqual(asked(self, pieces_in_row, plant), told)
            self.assertIs(asked(self, is_in_row, plant, told), True)
            shapes.add(tuple((len(cells), len(hands)) for cells, hands in told))
            for order in permutations(told):
                self.assertIs(is_in_row(plant, order), own_fits(plant, order))
            for place in range(len(told) - 1):
                # Not as small as can be.
                more = told[:place] + (joined(told[place], told[place + 1]),) + told[place + 2:]
                self.assertIs(is_in_row(plant, more), True)
        self.assertGreater(len(shapes), 25)

    def test_pieces_of_a_row_of_cells(self):
        die = dice(267)
        for _ in range(60):
            # Cells that act on few others, in any order: long rows of PIECES.
            many = die.randint(2, 5)
            order = die.sample(range(many), many)
            rows = [[0] * many for _ in range(many)]
            for _ in range(die.randint(0, 2 * many)):
                one, other = die.randrange(many), die.randrange(many)
                rows[order[max(one, other)]][order[min(one, other)]] = 1
            plant = (table(*rows), ((thin_table(die, 1, many, many), ()), ((), ())))
            self.assertEqual(pieces_in_row(plant), own_in_row(plant))

    def test_edges(self):
        self.assertEqual(asked(self, pieces_in_row, PARTS), PARTS_ROW)
        self.assertEqual(asked(self, pieces_in_row, ROW), (((0,), (0,)), ((1,), (1,))))
        self.assertEqual(asked(self, pieces_in_row, turned_about(ROW)), (((1,), (1,)), ((0,), (0,))))
        self.assertEqual(asked(self, pieces_in_row, AROUND), (((0, 1), (0, 1)),))
        self.assertEqual(asked(self, pieces_in_row, LONE), (((0,), ()),))
        self.assertEqual(asked(self, pieces_in_row, (table((2,)), (((), ()), ((), ())))), (((), (0,)), ((), (1,)), ((0,), ())))
        # Cells that no table joins, but one hand does.
        self.assertEqual(
            asked(self, pieces_in_row, (table((1, 0), (0, 1)), ((table((1, 0)), table((0, 1))),))), (((0, 1), (0,)),)
        )
        self.assertEqual(
            asked(self, pieces_in_row, (table((1, 0), (0, 1)), ((table((1, 1)), ()), ((), table((0, 1)))))), (((0, 1), (0, 1)),)
        )
        # A hand between two cells, which a third one leads on to and comes from.
        self.assertEqual(
            asked(self, pieces_in_row, (table((0, 0, 0), (1, 0, 0), (0, 1, 0)), ((table((1, 0, 0)), table((0, 0, 1))),))),
            (((0, 1, 2), (0,)),),
        )

    def test_is_in_row(self):
        is_none_spoiled(self, is_in_row, ROW, (((0,), (0,)), ((1,), (1,))))
        for thing in (
            PARTS_ROW, PARTS_ROW[::-1][:1] + PARTS_ROW[:4], (((0, 1, 2, 3), (0, 1, 2, 3)),),
            (((), (1, 3)), ((0, 1), (2,)), ((2, 3), (0,))), (((0, 1), (1, 2, 3)), ((3,), ()), ((2,), (0,))),
            (((0, 1), (2,)), ((2,), (0,)), ((3,), ()), ((), (3,)), ((), (1,))),
            (((0, 1), (2,)), ((2,), (0, 3)), ((3,), (1,))),
        ):
            self.assertIs(asked(self, is_in_row, PARTS, thing), True, thing)
        for thing in OTHER_THINGS + (
            (), PARTS_ROW[1:], PARTS_ROW[:4], PARTS_ROW + (((), ()),), PARTS_ROW + PARTS_ROW[:1], (((), ()),) + PARTS_ROW,
            # Out of order; cells apart that act on each other; a hand apart from what it touches.
            PARTS_ROW[:2] + (PARTS_ROW[3], PARTS_ROW[2], PARTS_ROW[4]),
            PARTS_ROW[:2] + (((0,), (2,)), ((1,), ())) + PARTS_ROW[3:],
            (((), (1,)), ((), (3,)), ((0, 1), ()), ((2,), (0, 2)), ((3,), ())),
            (((), (1, 2)), ((), (3,)), ((0, 1), ()), ((2,), (0,)), ((3,), ())),
            (((0, 1, 2, 3), (0, 1, 2)),), (((0, 1, 2), (0, 1, 2, 3)),), (((0, 1, 2, 3), (0, 1, 2, 3, 4)),),
            (((0, 1, 2, 3, 4), (0, 1, 2, 3)),), (((1, 0, 2, 3), (0, 1, 2, 3)),), (((0, 1, 2, 3), (1, 0, 2, 3)),),
            (((0, 1, 2, 3), (0, 1, 2, 3), ()),), (((0, 0, 1, 2, 3), (0, 1, 2, 3)),), (((-1, 0, 1, 2), (0, 1, 2, 3)),),
            (((0, 1, 2, 3),),), ((0, 1, 2, 3), (0, 1, 2, 3)), (((False, 1, 2, 3), (0, 1, 2, 3)),),
        ):
            self.assertIs(asked(self, is_in_row, PARTS, thing), False, thing)
        self.assertIs(asked(self, is_in_row, LONE, (((0,), ()),)), True)
        self.assertIs(asked(self, is_in_row, ROW, (((1,), (1,)), ((0,), (0,)))), False)
        for thing in spoiled(PARTS_ROW):
            self.assertIs(is_in_row(PARTS, thing), False, thing)

    def test_stay_by_pieces(self):
        held = 0
        for _, plant in small_plants(268, 60, entries=4):
            self.assertEqual(asked(self, stay_by_pieces, plant), row(*own_stay(plant)))
            held += len(stay_by_pieces(plant)) > 2
            # No hand reaches one of an earlier PIECE.
            at = {hand: place for place, (_, hands) in enumerate(pieces_in_row(plant)) for hand in hands}
            for one, other in links(plant):
                self.assertLessEqual(at[one], at[other])
        self.assertGreater(held, 5)

    def test_stay_by_pieces_at_the_edges(self):
        self.assertEqual(asked(self, stay_by_pieces, ROW), rooted(3))
        self.assertEqual(asked(self, stay_by_pieces, AROUND), poly(1))
        self.assertEqual(asked(self, stay_by_pieces, LONE), rooted(2))
        self.assertEqual(asked(self, stay_by_pieces, (table((2,)), (((), ()),))), rooted(2))
        self.assertEqual(asked(self, stay_by_pieces, PARTS), row(*own_stay(PARTS)))
        # Pieces that are small of a PLANT that is not: five cells, four hands, twelve entries.
        own = (table((1, 0), (0, 1)), ((table((1, 0), (0, 1)), table((1, 0), (0, 1))), (table((0, 1)), table((0, 1), (1, 1)))))
        wide = in_row(own, (table((2, 0, 0), (0, 3, 0), (0, 0, 5)), own_hands()), thin_table(dice(269), 3, 2, 1))
        self.assertEqual(asked(self, stay_by_pieces, wide), rooted(3, 5))


def own_hands():
    """Hands at the first of three cells: one with two levers and two gauges there, one that touches nothing."""
    return (table((1, 0, 0), (2, 0, 0)), table((1, 0, 0), (3, 0, 0))), ((), ())


if __name__ == "__main__":
    unittest.main()

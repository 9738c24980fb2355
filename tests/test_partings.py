"""Partings of hands [15]."""

import unittest
from fractions import Fraction
from itertools import combinations

from handsunread.errors import NoHand
from handsunread.partings import (
    is_rank_rules, is_short, lowest_lots, parted_multiple, parting, parting_divisor, rank_at, rank_rules, short_lots,
)
from handsunread.plants import all_rules, idle, is_rules
from handsunread.polys import divides
from handsunread.ptables import is_ptable
from handsunread.sight import closed_lots, sight_poly
from tests.own import (
    NO_FRACTIONS, OTHER_THINGS, asked, chain_plant, dice, great_row, great_table, number_rows, numbers, own_at,
    own_common, own_divided, own_poly_det, own_swift_rank, own_table_poly, poly, refused, rooted, row, some_plant,
    some_rules, spoiled, table, thin_plant,
)
from tests.test_plants import LONE, MIXED, own_whole

# Hand 0 warms a room and feels nothing, hand 1 feels it and has no lever.
COLD = (table((2,)), ((table((1,)), ()), ((), table((1,)))))
# x less the whole has the determinant x (x x - 1) - 2 x times both RULES' numbers.
BOTH = (
    table((0, 0, 0), (0, 1, 0), (0, 0, -1)),
    ((table((0, 1, 1)), table((1, 0, 0))), (table((1, 0, 0)), table((0, 1, 1)))),
)
TONES = (
    rooted(0), rooted(1), rooted(2), rooted(-1), rooted(0, 1), rooted(2, 2, 3), poly(1, 0, 1), poly(-2, 0, 1),
    rooted(Fraction(1, 2)), rooted(0, 1, 2, -1),
)


def small_plants(seed, many, most_cells=3, most_hands=3, most=2, entries=6):
    die = dice(seed)
    while many:
        make = die.choice((thin_plant, thin_plant, chain_plant, some_plant))
        plant = make(die, die.randint(1, most_cells), die.randint(0, most_hands), most=die.randint(1, most))
        if sum(len(levers) * len(gauges) for levers, gauges in plant[1]) <= entries:
            many -= 1
            yield die, plant


def lots_of(plant):
    hands = range(len(plant[1]))
    return sorted(lot for many in range(len(plant[1]) + 1) for lot in combinations(hands, many))


def own_parting(plant, lot):
    """Rows of lists of Fractions: the polys of the parting."""
    levers = [lever for hand in lot for lever in number_rows(plant[1][hand][0])]
    gauges = [
        gauge for hand, (_, own) in enumerate(plant[1]) if hand not in lot for gauge in number_rows(own)
    ]
    rows = []
    for cell, line in enumerate(number_rows(plant[0])):
        part = [[-value, Fraction(1)] if at == cell else [-value] for at, value in enumerate(line)]
        rows.append(part + [[lever[cell]] for lever in levers])
    return rows + [[[value] for value in gauge] + [[] for _ in levers] for gauge in gauges]


def own_divisor(plant, lot):
    """By all minors of as many rows as there are cells."""
    rows, many = own_parting(plant, lot), len(plant[0])
    return own_common(
        own_poly_det([[line[at] for at in columns] for line in lines])
        for lines in combinations(rows, many) for columns in combinations(range(len(rows[0])), many)
    )


def own_rank_at(plant, lot, number):
    return own_swift_rank([[own_at(part, number) for part in line] for line in own_parting(plant, lot)])


def own_rank_by(plant, rules, number):
    rows = own_whole(plant, rules)
    return own_swift_rank([
        [(number if at == place else 0) - value for at, value in enumerate(line)] for place, line in enumerate(rows)
    ])


class Partings(unittest.TestCase):
    def test_as_told(self):
        for _, plant in small_plants(180, 40, most_hands=4):
            for lot in lots_of(plant):
                found = asked(self, parting, plant, lot)
                self.assertIs(is_ptable(found), True)
                self.assertEqual(found, tuple(tuple(poly(*part) for part in line) for line in own_parting(plant, lot)))

    def test_edges(self):
        x = poly(-2, 1)
        self.assertEqual(asked(self, parting, LONE, ()), ((x,),))
        self.assertEqual(asked(self, parting, (table((0,)), (((), ()),)), (0,)), ((poly(0, 1),),))
        self.assertEqual(
            asked(self, parting, MIXED, (0, 3)),
            (
                (poly(-1, 1), poly(-2), poly(1), ()), ((), poly(Fraction(-1, 2), 1), (), poly(3)),
                (poly(1), poly(-1), (), ()), (poly(2), (), (), ()),
            ),
        )
        self.assertEqual(len(parting(MIXED, ())), 2 + 3)
        self.assertEqual([len(line) for line in parting(MIXED, (0, 1, 2, 3))], [5, 5])
        self.assertEqual(asked(self, parting, MIXED, (1, 2)), (
            (poly(-1, 1), poly(-2), poly(1)), ((), poly(Fraction(-1, 2), 1), poly(1)), ((), poly(1), ()),
        ))

    def test_no_hands(self):
        for lot, wrong in (((4,), 4), ((0, 9), 9), ((-1, 0), -1), ((-2, 8), -2), ((0, 1, 10 ** 20), 10 ** 20)):
            refused(self, NoHand, {"hand": wrong}, parting, MIXED, lot)
            refused(self, NoHand, {"hand": wrong}, parting_divisor, MIXED, lot)
            refused(self, NoHand, {"hand": wrong}, is_short, MIXED, lot, rooted(1))
            refused(self, NoHand, {"hand": wrong}, rank_at, MIXED, lot, (1, 1))
        refused(self, NoHand, {"hand": 0}, parting, LONE, (0,))
        refused(self, NoHand, {"hand": 0}, rank_at, LONE, (0,), (1, 1))


class Divisors(unittest.TestCase):
    def test_by_all_minors(self):
        kinds = set()
        for _, plant in small_plants(181, 60):
            own = {lot: own_divisor(plant, lot) for lot in lots_of(plant)}
            for lot, told in own.items():
                self.assertEqual(asked(self, parting_divisor, plant, lot), row(*told))
            found = asked(self, parted_multiple, plant)
            self.assertEqual(found[-1], (1, 1))
            # All divide it, and no factor of it is one too many.
            self.assertFalse(any(own_divided(numbers(found), told) for told in own.values()))
            rest = [self.divided(numbers(found), told) for told in own.values()]
            self.assertEqual(own_common(rest), [1])
            for tone in TONES:
                short = tuple(lot for lot, told in own.items() if len(own_common([told, numbers(tone)])) > 1)
                self.assertEqual(asked(self, short_lots, plant, tone), short)
                for lot in own:
                    self.assertIs(is_short(plant, lot, tone), lot in short)
            kinds.add((len(plant[1]), found))
        self.assertGreater(len(kinds), 12)

    def divided(self, one, other):
        """one by other, which divides it."""
        found, rest = [], list(one)
        while len(rest) >= len(other):
            much = rest[-1] / other[-1]
            found.append(much)
            shift = len(rest) - len(other)
            rest = [value - (much * other[at - shift] if at >= shift else 0) for at, value in enumerate(rest)][:-1]
        return found[::-1]

    def test_it_divides_whatever_the_rules(self):
        great = 0
        for die, plant in small_plants(182, 60):
            own = own_table_poly(own_whole(plant, some_rules(die, plant, low=-5, high=5)))
            found = parted_multiple(plant)
            self.assertTrue(divides(found, row(*own)))
            great += len(found) > 1
        self.assertGreater(great, 15)

    def test_some_parting_is_short(self):
        # Some TONE divides the told one and the polys of the wholes of ALL RULES exactly if some parting is short.
        found = [0, 0]
        for _, plant in small_plants(183, 50):
            shared = own_common(own_table_poly(own_whole(plant, rules)) for rules in all_rules(plant))
            for tone in TONES:
                held = len(own_common([shared, numbers(tone)])) > 1
                self.assertEqual(bool(short_lots(plant, tone)), held)
                found[held] += 1
        self.assertGreater(min(found), 30)

    def test_closed_lots(self):
        for _, plant in small_plants(184, 40):
            for lot in closed_lots(plant):
                self.assertEqual(parting_divisor(plant, lot), sight_poly(plant, lot))

    def test_edges(self):
        self.assertEqual(asked(self, parted_multiple, LONE), rooted(2))
        self.assertEqual(asked(self, parting_divisor, LONE, ()), rooted(2))
        self.assertEqual(asked(self, short_lots, LONE, rooted(2)), ((),))
        self.assertEqual(asked(self, short_lots, LONE, rooted(1)), ())
        self.assertIs(asked(self, is_short, LONE, (), rooted(2, 7)), True)
        idlers = (table((1, 1), (0, 1)), (((), ()), ((), ())))
        self.assertEqual(asked(self, parted_multiple, idlers), rooted(1, 1))
        self.assertEqual(asked(self, short_lots, idlers, rooted(1, 3)), ((), (0,), (0, 1), (1,)))
        self.assertEqual(asked(self, parted_multiple, MIXED), rooted(1))
        self.assertEqual(asked(self, short_lots, BOTH, rooted(0)), ((0,),))

    def test_great_plants(self):
        die = dice(185)
        hands = tuple((great_table(die, 3, 5), great_table(die, 3, 5)) for _ in range(4))
        plant = (great_table(die, 5, 5), hands)
        self.assertEqual(asked(self, parted_multiple, plant), poly(1))
        movers, seers = [(levers, ()) for levers, _ in hands[:2]], [((), gauges) for _, gauges in hands[2:]]
        blind = (plant[0], tuple(movers + seers))
        self.assertEqual(row(*own_table_poly(number_rows(plant[0]))), parting_divisor(blind, (2, 3)))
        self.assertEqual(lowest_lots(plant, (1, 7)), ((), (0, 1, 2, 3)))


class Ranks(unittest.TestCase):
    def test_ranks(self):
        kinds = set()
        for die, plant in small_plants(186, 60):
            for number in (Fraction(0), Fraction(1), Fraction(2), Fraction(-1), Fraction(1, 2)):
                at = (number.numerator, number.denominator)
                own = {lot: own_rank_at(plant, lot, number) for lot in lots_of(plant)}
                for lot, told in own.items():
                    self.assertEqual(rank_at(plant, lot, at), told)
                    # It has rank below n exactly if its divisor is 0 there.
                    short = own_at(numbers(parting_divisor(plant, lot)), number) == 0
                    self.assertEqual(told < len(plant[0]), short)
                least = min(own.values())
                found = asked(self, lowest_lots, plant, at)
                self.assertEqual(found, tuple(lot for lot in own if own[lot] == least))
                for one in found:
                    for other in found:
                        self.assertIn(tuple(sorted(set(one) | set(other))), found)
                        self.assertIn(tuple(sorted(set(one) & set(other))), found)
                self.the_rules(die, plant, number, least)
                kinds.add((len(found), least, len(plant[0])))
        self.assertGreater(len(kinds), 12)

    def the_rules(self, die, plant, number, least):
        at = (number.numerator, number.denominator)
        ranks = {rules: own_rank_by(plant, rules, number) for rules in all_rules(plant)}
        self.assertEqual(max(ranks.values()), least)
        rules = asked(self, rank_rules, plant, at)
        self.assertIs(asked(self, is_rank_rules, plant, at, rules), True)
        self.assertEqual(ranks[rules], least)
        for rules, rank in list(ranks.items())[:8]:
            self.assertIs(is_rank_rules(plant, at, rules), rank == least)
        rules = some_rules(die, plant, low=-4, high=4)
        rank = own_rank_by(plant, rules, number)
        self.assertLessEqual(rank, least)
        self.assertIs(is_rank_rules(plant, at, rules), rank == least)

    def test_is_rank_rules(self):
        thing = (table((1,)), table((Fraction(1, 2),)))
        self.assertIs(asked(self, is_rank_rules, BOTH, (1, 1), thing), True)
        for other in spoiled(thing) + [
            thing[:1], thing + ((),), (), ((),), thing[0], (table((1, 1)), thing[1]), (table((1,), (1,)), thing[1]),
            ((), thing[1]), (((),), thing[1]), (thing[0], table((0,))), (table((0,)), thing[1]), idle(BOTH),
        ] + list(OTHER_THINGS):
            self.assertIs(is_rank_rules(BOTH, (1, 1), other), False, other)
        for part in NO_FRACTIONS:
            self.assertIs(is_rank_rules(BOTH, (1, 1), ((((part,),)), thing[1])), False)
        self.assertIs(asked(self, is_rank_rules, BOTH, (1, 1), (table((-3,)), table((Fraction(7, 5),)))), True)
        # Of 0 no RULES take the shortness.
        self.assertIs(asked(self, is_rank_rules, BOTH, (0, 1), idle(BOTH)), True)
        # Where both RULES' numbers come to 3/2 multiplied, 2 is a zero of the poly.
        self.assertIs(is_rank_rules(BOTH, (2, 1), (table((3,)), table((Fraction(1, 2),)))), False)
        self.assertIs(is_rank_rules(BOTH, (2, 1), idle(BOTH)), True)

    def test_edges(self):
        self.assertEqual(asked(self, rank_at, LONE, (), (2, 1)), 0)
        self.assertEqual(asked(self, rank_at, LONE, (), (2, 3)), 1)
        self.assertEqual(asked(self, lowest_lots, LONE, (2, 1)), ((),))
        self.assertEqual(asked(self, rank_rules, LONE, (2, 1)), ())
        self.assertEqual(asked(self, rank_rules, LONE, (1, 1)), ())
        self.assertIs(asked(self, is_rank_rules, LONE, (2, 1), ()), True)
        self.assertEqual(rank_rules(COLD, (2, 1)), (((),), ()))
        self.assertIs(is_rules(MIXED, asked(self, rank_rules, MIXED, (1, 1))), True)
        self.assertEqual(lowest_lots(COLD, (2, 1)), ((1,),))
        self.assertEqual(lowest_lots(COLD, (10 ** 30, 7)), ((), (0, 1), (1,)))
        die = dice(187)
        self.assertEqual(rank_at(COLD, (0,), great_row(die, 1)[0]), 2)


if __name__ == "__main__":
    unittest.main()

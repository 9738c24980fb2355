"""Coming to rest [19]."""

import unittest
from fractions import Fraction
from itertools import product as all_of

from handsunread.errors import Unfit
from handsunread.memory import steady_whole
from handsunread.plants import all_rules, idle, whole
from handsunread.rest import (
    calm_after, clock_moves, dies_out, first_clock, first_rules, held_alone, is_calm, is_held_alone, never_rests,
    powered, rests, round_of, schur_row, steady_rests, surely_restless, table_dies,
)
from handsunread.sight import sight
from handsunread.staying import stay
from tests.own import (
    asked, dice, great_row, great_table, number_rows, numbers, own_applied, own_common, own_divided, own_product,
    own_table_poly, own_times, poly, refused, rooted, row, some_row, some_rules, some_table, table,
)
from tests.test_partings import small_plants
from tests.test_plants import LONE, MIXED, own_whole
from tests.test_plays import some_steady
from tests.test_sight import own_steady_whole
from tests.test_staying import BLIND, SEEING, have_common, own_stay

# The example of the document.
HANDS = (
    (table((0, 1, 1)), table((1, 0, 0))), (table((1, 0, 0)), table((0, 1, 1))),
)
THREE = (table((2, 0, 0), (0, 3, 0), (0, 0, 1)), HANDS)
# Of a whole that is never 0 in sight, but 0 stays: x times a POLY that hangs on the RULES.
NOUGHT = (table((0, 0, 0), (0, 1, 0), (0, 0, -1)), HANDS)
ACT, STILL = (table((1,)), table((1,))), (table((0,)), table((0,)))
# Two cells that two hands keep each by itself, of no zero that stays.
TWO = (table((3, 0), (0, 3)), ((table((1, 0)), table((1, 0))), (table((0, 1)), table((0, 1)))))


def squared(real, other):
    """The POLY with the zeros real + i other and real - i other."""
    return [Fraction(real) ** 2 + Fraction(other) ** 2, -2 * Fraction(real), Fraction(1)]


def known_poly(die):
    """A POLY by its zeros, and whether all of them have a size below 1; many of them just about 1."""
    found, small = [Fraction(die.choice((1, -1, 3)), die.choice((1, 2)))], True
    for _ in range(die.randint(0, 4)):
        if die.randint(0, 1):
            zero = Fraction(die.choice((0, 1, -1, 3, -3, 7, -9, 10, 19, 20)), die.choice((4, 10, 20)))
            found, small = own_product(found, [-zero, Fraction(1)]), small and abs(zero) < 1
        else:
            real, other = die.choice(((3, 4), (0, 5), (3, 3), (4, 4), (0, 0), (-3, 4), (1, 2), (0, 4), (-5, 1)))
            found = own_product(found, squared(Fraction(real, 5), Fraction(other, 5)))
            small = small and real ** 2 + other ** 2 < 25
    return row(*found), small


def own_schur(values):
    found, left = [], list(values)
    while len(left) > 1:
        found.append(left[0] / left[-1])
        if abs(found[-1]) >= 1:
            return found
        left = [left[-1] * value - left[0] * other for value, other in zip(left, reversed(left))][1:]
    return found


def own_power(rows, many):
    found = rows
    for _ in range(many - 1):
        found = own_times(rows, found)
    return found


def own_calms(rows, many):
    """The powers from 1 to so many in which the sizes in each row come to less than 1."""
    now, found = rows, []
    for tick in range(1, many + 1):
        if all(sum(abs(value) for value in line) < 1 for line in now):
            found.append(tick)
        now = own_times(rows, now)
    return found


def own_round(plant, clock):
    rows = None
    for rules in clock:
        now = own_whole(plant, rules)
        rows = now if rows is None else own_times(now, rows)
    return rows


class Polys(unittest.TestCase):
    def test_by_known_zeros(self):
        die, found = dice(240), {True: 0, False: 0}
        for _ in range(200):
            values, small = known_poly(die)
            self.assertIs(asked(self, dies_out, values), small, values)
            self.assertEqual(asked(self, schur_row, values), row(*own_schur(numbers(values))))
            found[small] += 1
        self.assertGreater(min(found.values()), 50)

    def test_edges(self):
        for values, told, small in (
            (poly(5), row(), True), (poly(Fraction(-1, 3)), row(), True), (poly(0, 1), row(0), True),
            (poly(0, 0, 0, 2), row(0, 0, 0), True), (poly(-1, 1), row(-1), False), (poly(1, 1), row(1), False),
            (poly(-1, 2), row(Fraction(-1, 2)), True), (poly(2, -1), row(-2), False), (poly(1, 0, 1), row(1), False),
            (poly(1, 0, 2), row(Fraction(1, 2), 0), True), (poly(0, 1, 1), row(0, 1), False),
            (poly(0, -2, 1), row(0, -2), False), (rooted(Fraction(1, 2), 1), row(Fraction(1, 2), -1), False),
            (poly(Fraction(1, 4), -1, 1), row(Fraction(1, 4), Fraction(-4, 5)), True),
            # Size just 1 with a part that is not real: 3/5 and 4/5.
            (row(*squared(Fraction(3, 5), Fraction(4, 5))), row(1), False),
            (row(*own_product(squared(Fraction(3, 5), Fraction(4, 5)), [0, 1])), row(0, 1), False),
            (rooted(Fraction(10 ** 6 - 1, 10 ** 6)), row(Fraction(1 - 10 ** 6, 10 ** 6)), True),
            (rooted(Fraction(10 ** 6 + 1, 10 ** 6)), row(Fraction(-1 - 10 ** 6, 10 ** 6)), False),
        ):
            self.assertEqual(asked(self, schur_row, values), told)
            self.assertIs(asked(self, dies_out, values), small)
        self.assertIs(asked(self, dies_out, rooted(*[Fraction(1, 2)] * 12)), True)
        self.assertIs(asked(self, dies_out, rooted(*[Fraction(1, 2)] * 11, 1)), False)
        self.assertIs(asked(self, dies_out, rooted(*[Fraction(1, 2)] * 11, -2)), False)
        die = dice(241)
        self.assertEqual(asked(self, schur_row, great_row(die, 12) + ((10 ** 40, 1),))[0][0] != 0, True)
        values = row(*[Fraction(die.randint(-10 ** 4, 10 ** 4), die.randint(10 ** 5, 10 ** 6)) for _ in range(8)], 1)
        self.assertEqual(asked(self, schur_row, values), row(*own_schur(numbers(values))))
        self.assertEqual(len(schur_row(values)), 8)

    def test_powered(self):
        die = dice(242)
        for _ in range(60):
            zeros = [Fraction(die.randint(-3, 3), die.choice((1, 1, 2, 3))) for _ in range(die.randint(1, 4))]
            many = die.randint(1, 6)
            self.assertEqual(asked(self, powered, rooted(*zeros), many), rooted(*[zero ** many for zero in zeros]))
        for _ in range(30):
            # Zeros that are not real: by the poly of the powers of a table with just these.
            tone = some_row(die, die.randint(1, 4)) + ((1, 1),)
            values, many = numbers(tone), die.randint(1, 5)
            long = len(values) - 1
            rows = [[Fraction(at == place + 1) for at in range(long)] for place in range(long - 1)]
            rows.append([-value for value in values[:-1]])
            self.assertEqual(asked(self, powered, tone, many), row(*own_table_poly(own_power(rows, many))))

    def test_powered_at_the_edges(self):
        self.assertEqual(asked(self, powered, poly(1, 0, 1), 2), rooted(-1, -1))
        self.assertEqual(asked(self, powered, poly(1, 0, 1), 4), rooted(1, 1))
        self.assertEqual(asked(self, powered, poly(-2, 0, 1), 2), rooted(2, 2))
        self.assertEqual(asked(self, powered, rooted(-1, 1), 2), rooted(1, 1))
        self.assertEqual(asked(self, powered, rooted(0), 12), rooted(0))
        self.assertEqual(asked(self, powered, rooted(0, 0, 2), 12), rooted(0, 0, 4096))
        self.assertEqual(asked(self, powered, rooted(Fraction(1, 2), 3), 1), rooted(Fraction(1, 2), 3))
        self.assertEqual(asked(self, powered, rooted(*range(12)), 12), rooted(*[zero ** 12 for zero in range(12)]))
        great = Fraction(10 ** 40, 999983)
        self.assertEqual(asked(self, powered, rooted(great, 1), 12), rooted(great ** 12, 1))
        die = dice(243)
        tone = great_row(die, 12) + ((1, 1),)
        found = asked(self, powered, tone, 12)
        # By steps of 2, 2 and 3 in any order.
        self.assertEqual(powered(powered(powered(tone, 3), 2), 2), found)
        self.assertEqual(powered(powered(tone, 4), 3), found)


class Tables(unittest.TestCase):
    def test_by_powers(self):
        die, found = dice(244), {None: 0}
        for _ in range(120):
            many = die.randint(1, 3)
            rows = some_table(die, many, many, bottoms=(2, 3, 4, 5))
            own = number_rows(rows)
            self.assertIs(asked(self, table_dies, rows), dies_out(row(*own_table_poly(own))))
            calm = own_calms(own, 40)
            told = calm[0] if calm else None
            self.assertEqual(asked(self, calm_after, rows, 40), told)
            if told is None:
                self.assertIs(asked(self, is_calm, rows, die.randint(1, 40)), False)
            else:
                self.assertIs(table_dies(rows), True)
                self.assertIs(asked(self, is_calm, rows, told), True)
                if told > 1:
                    self.assertIsNone(asked(self, calm_after, rows, told - 1))
                    self.assertIs(asked(self, is_calm, rows, told - 1), False)
                self.assertEqual(asked(self, calm_after, rows, told), told)
            found[told] = found.get(told, 0) + 1
        self.assertGreater(len(found), 4)
        self.assertGreater(found[None], 10)

    def test_edges(self):
        half = Fraction(1, 2)
        self.assertEqual(asked(self, calm_after, table((half, 1), (0, half)), 9), 3)
        self.assertIsNone(asked(self, calm_after, table((half, 1), (0, half)), 2))
        self.assertIsNone(asked(self, calm_after, table((1,)), 40))
        self.assertIsNone(asked(self, calm_after, table((-1,)), 40))
        self.assertEqual(asked(self, calm_after, table((0,)), 1), 1)
        self.assertEqual(asked(self, calm_after, table((Fraction(-2, 3),)), 1), 1)
        self.assertIs(asked(self, is_calm, table((0, 5), (0, 0)), 2), True)
        self.assertIs(asked(self, is_calm, table((0, 5), (0, 0)), 1), False)
        # Sizes count, not what they come to; and each ROW for itself.
        self.assertIs(asked(self, is_calm, table((half, -half), (0, 0)), 1), False)
        self.assertIs(asked(self, is_calm, table((half, Fraction(-1, 3)), (0, Fraction(5, 6))), 1), True)
        self.assertIs(asked(self, is_calm, table((0, 0), (half, half)), 1), False)
        # One that is calm at a power, and not at the next one.
        rows = table((0, 3), (Fraction(1, 4), 0))
        self.assertEqual([is_calm(rows, many) for many in (1, 2, 3, 4, 5, 6)], [False, True, False, True, False, True])
        self.assertEqual(asked(self, calm_after, rows, 5), 2)
        # So slowly that 40 powers are not enough.
        slow = table((Fraction(99, 100), 5), (0, Fraction(99, 100)))
        self.assertIs(asked(self, table_dies, slow), True)
        self.assertIsNone(asked(self, calm_after, slow, 40))
        for rows, told in (
            (table((1,)), False), (table((half,)), True), (table((0, 1), (-1, 0)), False), (table((0, 7), (0, 0)), True),
            (table((half, 0), (0, 1)), False), (table((half, 100), (0, -half)), True),
        ):
            self.assertIs(asked(self, table_dies, rows), told)

    def test_great_numbers(self):
        die = dice(245)
        self.assertIsNone(asked(self, calm_after, great_table(die, 4, 4), 40))
        chain = [[0, 10 ** 40, 10 ** 40], [0, 0, Fraction(10 ** 40, 999983)], [0, 0, 0]]
        self.assertEqual(asked(self, calm_after, table(*chain), 40), 3)
        self.assertIs(asked(self, is_calm, table(*chain), 40), True)
        rows = [[Fraction(die.randint(-10 ** 5, 10 ** 5), die.randint(10 ** 5, 10 ** 6)) for _ in range(6)] for _ in range(6)]
        told = own_calms(rows, 8)
        self.assertEqual(asked(self, calm_after, table(*rows), 8), told[0] if told else None)


class Plants(unittest.TestCase):
    def test_rests(self):
        found = {True: 0, False: 0}
        for die, plant in small_plants(246, 60, entries=4):
            for rules in [idle(plant)] + [some_rules(die, plant, bottoms=(2, 3)) for _ in range(2)]:
                told = dies_out(row(*own_table_poly(own_whole(plant, rules))))
                self.assertIs(asked(self, rests, plant, rules), told)
                found[told] += 1
            steady = some_steady(die, plant)
            self.assertIs(
                asked(self, steady_rests, plant, steady),
                dies_out(row(*own_table_poly(own_steady_whole(plant, steady)))),
            )
            told = [rules for rules in all_rules(plant) if dies_out(row(*own_table_poly(own_whole(plant, rules))))]
            self.assertEqual(asked(self, first_rules, plant), told[0] if told else None)
        self.assertGreater(min(found.values()), 20)

    def test_rests_at_the_edges(self):
        self.assertIs(asked(self, rests, LONE, ()), False)
        self.assertIs(asked(self, rests, (table((Fraction(1, 2),)), ()), ()), True)
        self.assertIs(asked(self, rests, SEEING, (table((Fraction(1, 2),)),)), True)
        self.assertIs(asked(self, rests, SEEING, (table((1,)),)), False)
        # With one memory the cart of the document is still behind three ticks; with RULES never.
        cart = (table((1, 1), (0, 1)), ((table((0, 1)), table((1, 0))),))
        calm = (table((-2,)), table((1,)), table((8,)), table((-3,)))
        self.assertIs(asked(self, steady_rests, cart, (calm,)), True)
        self.assertEqual(calm_after(steady_whole(cart, (calm,)), 40), 3)
        self.assertIsNone(asked(self, first_rules, cart))
        self.assertIs(asked(self, steady_rests, LONE, ()), False)
        # A hand that nobody hears of is to rest, too.
        bare = (table((Fraction(1, 2),)), (((), ()),))
        self.assertIs(asked(self, steady_rests, bare, (((), (), (), ()),)), True)
        self.assertIs(asked(self, steady_rests, bare, ((table((1,)), ((),), (), ()),)), False)
        self.assertEqual(asked(self, first_rules, bare), ((),))
        self.assertIsNone(asked(self, first_rules, LONE))
        self.assertEqual(asked(self, first_rules, SEEING), (table((0,)),))
        away = (table((-1,)), ((table((1,)), table((1,))),))
        self.assertEqual(asked(self, first_rules, away), (table((1,)),))

    def test_what_never_rests(self):
        kinds = set()
        for die, plant in small_plants(247, 60, entries=4):
            held, seen = row(*own_stay(plant)), sight(plant)
            self.assertIs(asked(self, never_rests, plant), not dies_out(held))
            self.assertIs(asked(self, surely_restless, plant), not dies_out(seen))
            kinds.add((never_rests(plant), surely_restless(plant)))
            if never_rests(plant):
                self.assertIsNone(first_rules(plant))
                self.assertIs(steady_rests(plant, some_steady(die, plant)), False)
            # What is in sight stays.
            self.assertLessEqual(surely_restless(plant), never_rests(plant))
        self.assertLessEqual({(True, True), (False, False)}, kinds)

    def test_what_never_rests_at_the_edges(self):
        for plant, told in (
            (LONE, (True, True)), (BLIND, (True, True)), (SEEING, (False, False)), (THREE, (True, False)),
            (NOUGHT, (False, False)), ((table((Fraction(1, 2),)), ()), (False, False)), (MIXED, (True, True)),
            ((table((0, 1), (1, 0)), ()), (True, True)),
        ):
            self.assertEqual((asked(self, never_rests, plant), asked(self, surely_restless, plant)), told)
        # sight asks no small PLANT.
        die = dice(248)
        wide = (table((2, 0), (0, 3)), tuple((some_table(die, 3, 2), some_table(die, 3, 2)) for _ in range(3)))
        self.assertIs(asked(self, surely_restless, wide), False)

    def test_held_alone(self):
        alone = 0
        plants = [plant for _, plant in small_plants(249, 60, entries=4)] + self.rings()
        for plant in plants:
            held, seen = own_stay(plant), numbers(sight(plant))
            found = numbers(asked(self, held_alone, plant))
            # It divides what stays, has nothing in common with sight, and what is left of stay has nothing else.
            self.assertEqual(own_divided(held, found), [])
            self.assertEqual(len(own_common([found, seen])), 1)
            left = self.quotient(held, found)
            while len(own_common([left, seen])) > 1:
                left = self.quotient(left, own_common([left, seen]))
            self.assertEqual(left, [1])
            for tone in (rooted(0), rooted(1), rooted(2), rooted(2, 1), rooted(0, 5), poly(1, 0, 1)):
                self.assertIs(is_held_alone(plant, tone), have_common(found, numbers(tone)))
            alone += len(found) > 1
        self.assertGreater(alone, 4)

    def quotient(self, one, other):
        """one divided by other, which divides it."""
        found, rest = [], list(one)
        while len(rest) >= len(other):
            found.append(rest[-1] / other[-1])
            shift = len(rest) - len(other)
            rest = [value - (found[-1] * other[at - shift] if at >= shift else 0) for at, value in enumerate(rest)][:-1]
        return found[::-1]

    def rings(self):
        """PLANTS like that of the example, with other numbers."""
        return [
            (table((first, 0, 0), (0, second, 0), (0, 0, third)), HANDS)
            for first, second, third in ((2, 3, 1), (1, 2, 0), (0, 1, -1), (0, 0, 0), (2, 2, 2), (3, 2, 4), (5, 2, 8))
        ]

    def test_held_alone_at_the_edges(self):
        self.assertEqual(asked(self, held_alone, THREE), rooted(2))
        self.assertEqual(asked(self, held_alone, NOUGHT), rooted(0))
        self.assertEqual(asked(self, held_alone, BLIND), poly(1))
        self.assertEqual(asked(self, held_alone, LONE), poly(1))
        self.assertEqual(asked(self, held_alone, SEEING), poly(1))
        self.assertIs(asked(self, is_held_alone, THREE, rooted(2)), True)
        self.assertIs(asked(self, is_held_alone, THREE, rooted(2, 2, 7)), True)
        self.assertIs(asked(self, is_held_alone, THREE, rooted(1)), False)
        self.assertIs(asked(self, is_held_alone, BLIND, rooted(2)), False)
        self.assertIs(asked(self, is_held_alone, LONE, rooted(2)), False)


class Clocks(unittest.TestCase):
    def test_round_of(self):
        for die, plant in small_plants(250, 40):
            clock = tuple(some_rules(die, plant) for _ in range(die.randint(1, 4)))
            found = asked(self, round_of, plant, clock)
            self.assertEqual(found, table(*own_round(plant, clock)))
            # What cells become by one tick after the other.
            cells = numbers(some_row(die, len(plant[0])))
            now = cells
            for rules in clock:
                now = own_applied(own_whole(plant, rules), now)
            self.assertEqual(own_applied(number_rows(found), cells), now)
            for tone in (rooted(0), rooted(1), rooted(2, 1), poly(1, 0, 1)):
                told = not have_common(own_table_poly(own_round(plant, clock)), numbers(powered(tone, len(clock))))
                self.assertIs(clock_moves(plant, clock, tone), told)

    def test_edges(self):
        self.assertEqual(
            asked(self, round_of, THREE, ((ACT[0], STILL[1]), (STILL[0], ACT[1]))),
            table((6, 3, 1), (3, 9, 0), (1, 0, 1)),
        )
        self.assertEqual(asked(self, round_of, LONE, ((), (), ())), table((8,)))
        self.assertEqual(asked(self, round_of, TWO, (ACT,)), whole(TWO, ACT))
        self.assertEqual(asked(self, round_of, LONE, ((),) * 12), table((4096,)))
        for plant in (LONE, THREE, TWO):
            refused(self, Unfit, {}, round_of, plant, ())
            refused(self, Unfit, {}, clock_moves, plant, (), rooted(2))
        self.assertIs(asked(self, clock_moves, THREE, ((ACT[0], STILL[1]), (STILL[0], ACT[1])), rooted(2)), True)
        self.assertIs(asked(self, clock_moves, THREE, (ACT,), rooted(2)), False)
        self.assertIs(asked(self, clock_moves, THREE, (ACT, ACT), rooted(2)), False)
        # 3 and its like, -3, have the square 9.
        self.assertIs(asked(self, clock_moves, TWO, (STILL, STILL), rooted(-3)), False)
        self.assertIs(asked(self, clock_moves, TWO, (STILL,), rooted(-3)), True)
        self.assertIs(asked(self, clock_moves, LONE, ((), ()), rooted(-2)), False)
        self.assertIs(asked(self, clock_moves, LONE, ((), ()), rooted(4)), True)

    def test_no_clock_moves_what_is_in_sight(self):
        seen = 0
        for die, plant in small_plants(251, 50, entries=4):
            tone = sight(plant)
            if len(tone) > 1:
                seen += 1
                clock = tuple(some_rules(die, plant) for _ in range(die.randint(1, 4)))
                self.assertIs(clock_moves(plant, clock, tone), False)
                if sum(len(levers) * len(gauges) for levers, gauges in plant[1]) <= 3:
                    self.assertIsNone(first_clock(plant, tone))
        self.assertGreater(seen, 15)

    def test_first_clock(self):
        kinds = set()
        for _, plant in small_plants(252, 40, entries=2):
            some = all_rules(plant)
            for tone in (rooted(0), rooted(1), rooted(2), poly(1, 0, 1)):
                told = [
                    pair for pair in all_of(some, some)
                    if not have_common(own_table_poly(own_round(plant, pair)), numbers(powered(tone, 2)))
                ]
                self.assertEqual(asked(self, first_clock, plant, tone), min(told) if told else None)
                kinds.add(min(told) if told else None)
        self.assertGreater(len(kinds), 5)

    def test_first_clock_at_the_edges(self):
        self.assertEqual(asked(self, first_clock, THREE, rooted(2)), (STILL, ACT))
        # x stays, and no CLOCK moves it.
        self.assertEqual(stay(NOUGHT), rooted(0))
        self.assertIsNone(asked(self, first_clock, NOUGHT, rooted(0)))
        self.assertIsNone(asked(self, first_clock, LONE, rooted(2)))
        self.assertEqual(asked(self, first_clock, LONE, rooted(3)), ((), ()))
        self.assertEqual(asked(self, first_clock, TWO, rooted(3)), (STILL, ACT))
        wide = (table((2,)), ((table((1,)), table((1,), (2,), (3,))),))
        self.assertEqual(asked(self, first_clock, wide, rooted(2)), ((table((0, 0, 0)),), (table((0, 0, 1)),)))


if __name__ == "__main__":
    unittest.main()

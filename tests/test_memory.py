"""Programs with memory [17]."""

import unittest
from fractions import Fraction

from handsunread.errors import NoHand, Unfit
from handsunread.memory import (
    alike, answers, as_rules, as_steady, beyond_stay, fewest_memories, greater_plant, is_leanest, is_program, leanest,
    rules_at, steady_poly, steady_whole,
)
from handsunread.partings import parting_divisor
from handsunread.plants import idle, is_plant, is_rules
from handsunread.plays import is_steady
from handsunread.staying import stay
from tests.own import (
    OTHER_THINGS, asked, dice, great_table, is_none_spoiled, number_rows, numbers, own_at, own_product, own_shown,
    own_swift_rank, own_table_poly, own_times, pair, poly, refused, rooted, row, some_plant, some_rules, some_table, spoiled,
    table,
)
from tests.test_partings import lots_of, small_plants
from tests.test_plants import LONE, MIXED, own_whole
from tests.test_plays import some_steady
from tests.test_sight import own_steady_whole

# The examples of the document.
CART = (table((1, 1), (0, 1)), ((table((0, 1)), table((1, 0))),))
CALM = (table((-2,)), table((1,)), table((8,)), table((-3,)))
TWICE = (table((-2, 0), (1, 3)), table((1,), (4,)), table((8, 0)), table((-3,)))
SPLIT = (table((2,)), ((table((1,)), ()), ((), table((1,)))))
MUTE, LOG = ((), (), ((),), ((),)), (table((Fraction(1, 2),)), table((1,)), (), ())
# Of a hand with neither levers nor gauges, with no memory and with two.
BARE, BARE_TWO = ((), (), (), ()), (table((1, 2), (3, 4)), ((), ()), (), ())


def some_program(die, sizes, many, **more):
    levers, gauges = sizes
    return (
        some_table(die, many, many, **more), some_table(die, many, gauges, **more),
        some_table(die, levers, many, **more), some_table(die, levers, gauges, **more),
    )


def one_hand(levers, gauges):
    """A PLANT of one cell with one hand with so many levers and gauges."""
    return (table((1,)), ((table(*[(1,)] * levers), table(*[(1,)] * gauges)),))


def own_answers(program, gauges, many):
    """What the levers are moved by, tick by tick, when each gauge showed 1 once, by a play of the memories."""
    keeps, hears, tells, rule = [number_rows(part) for part in program]
    columns = []
    for gauge in range(gauges):
        held, shows = [Fraction(0)] * len(keeps), [Fraction(int(at == gauge)) for at in range(gauges)]
        moved = []
        for _ in range(many):
            moved.append([
                own_shown(told, held) + own_shown(by, shows) for told, by in zip(tells, rule)
            ])
            held = [own_shown(kept, held) + own_shown(heard, shows) for kept, heard in zip(keeps, hears)]
            shows = [Fraction(0)] * gauges
        columns.append(moved)
    return tuple(
        tuple(row(*[columns[gauge][tick][lever] for gauge in range(gauges)]) for lever in range(len(rule)))
        for tick in range(many)
    )


def own_fewest(program, gauges):
    """The rank of the blocks of answers."""
    many = len(program[0])
    told = [number_rows(answer) for answer in own_answers(program, gauges, 2 * many + 1)]
    rows = [
        [value for k in range(many) for value in told[j + k + 1][lever]]
        for j in range(many) for lever in range(len(program[2]))
    ]
    return own_swift_rank(rows) if rows and rows[0] else 0


def based_program(die, program):
    """An alike one, whose memories hold a base times what those of the PROGRAM hold."""
    keeps, hears, tells, rule = [number_rows(part) for part in program]
    many = len(keeps)
    base = [[Fraction(die.randint(-2, 2) if at < place else at == place) for at in range(many)] for place in range(many)]
    back = own_undone(base)
    made = (own_times(own_times(base, keeps), back), own_times(base, hears), own_times(tells, back), rule)
    return tuple(table(*part) for part in made)


def own_undone(base):
    """Of a base with 1 on the diagonal and 0 behind it."""
    many = len(base)
    found = []
    for place in range(many):
        line = [Fraction(at == place) for at in range(many)]
        for other in range(place):
            line = [value - base[place][other] * taken for value, taken in zip(line, found[other])]
        found.append(line)
    return found


def with_idle_memory(program, gauges, much):
    """An alike one with a further memory, ahead of all others, that nobody listens to."""
    keeps, hears, tells, rule = program
    many = len(keeps)
    return (
        (row(much, *[1] * many),) + tuple(row(0) + line for line in keeps),
        (row(*[5] * gauges),) + hears, tuple(row(0) + line for line in tells), rule,
    )


class Programs(unittest.TestCase):
    def test_is_program(self):
        is_none_spoiled(self, is_program, CART, 0, CALM)
        is_none_spoiled(self, is_program, CART, 0, TWICE)
        is_none_spoiled(self, is_program, SPLIT, 0, MUTE)
        is_none_spoiled(self, is_program, SPLIT, 1, LOG)
        is_none_spoiled(self, is_program, MIXED, 3, BARE_TWO)
        self.assertIs(asked(self, is_program, MIXED, 3, BARE), True)
        die = dice(200)
        # However many memories.
        self.assertIs(asked(self, is_program, MIXED, 0, some_program(die, (2, 1), 15)), True)
        for thing in OTHER_THINGS + (
            (), (CALM,), CALM[:3], CALM + ((),), MUTE, LOG, BARE, BARE_TWO,
            (table((1, 2)), table((1,)), table((8,)), table((-3,))),
            (CALM[0], table((1,), (1,)), CALM[2], CALM[3]), (CALM[0], table((1, 1)), CALM[2], CALM[3]),
            (CALM[0], CALM[1], table((8, 1)), CALM[3]), (CALM[0], CALM[1], table((8,), (1,)), CALM[3]),
            (CALM[0], CALM[1], CALM[2], table((-3, 1))), (CALM[0], CALM[1], CALM[2], ()), (CALM[0], (), CALM[2], CALM[3]),
        ):
            self.assertIs(asked(self, is_program, CART, 0, thing), False, thing)
        for hand in (1, -1, 9):
            refused(self, NoHand, {"hand": hand}, is_program, CART, hand, CALM)
            refused(self, NoHand, {"hand": hand}, is_program, CART, hand, None)
        refused(self, NoHand, {"hand": 0}, is_program, LONE, 0, BARE)

    def test_whole(self):
        for die, plant in small_plants(201, 40):
            steady = some_steady(die, plant)
            told = own_steady_whole(plant, steady)
            self.assertEqual(asked(self, steady_whole, plant, steady), table(*told))
            self.assertEqual(asked(self, steady_poly, plant, steady), row(*own_table_poly(told)))
            # beyond_stay times stay is the poly.
            found = numbers(asked(self, beyond_stay, plant, steady))
            self.assertEqual(row(*own_product(found, numbers(stay(plant)))), row(*own_table_poly(told)))

    def test_whole_at_the_edges(self):
        self.assertEqual(asked(self, steady_whole, LONE, ()), table((2,)))
        self.assertEqual(asked(self, steady_poly, LONE, ()), rooted(2))
        self.assertEqual(asked(self, beyond_stay, LONE, ()), poly(1))
        plant = (table((2,)), (((), ()),))
        self.assertEqual(asked(self, steady_whole, plant, (BARE_TWO,)), table((2, 0, 0), (0, 1, 2), (0, 3, 4)))
        self.assertEqual(asked(self, steady_whole, plant, (BARE,)), table((2,)))
        self.assertEqual(asked(self, steady_whole, SPLIT, (MUTE, LOG)), table((2, 0), (1, Fraction(1, 2))))
        die = dice(202)
        plant = (great_table(die, 3, 3), ((great_table(die, 2, 3), great_table(die, 1, 3)),))
        steady = ((great_table(die, 2, 2), great_table(die, 2, 1), great_table(die, 2, 2), great_table(die, 2, 1)),)
        told = own_steady_whole(plant, steady)
        self.assertEqual(asked(self, steady_whole, plant, steady), table(*told))
        self.assertEqual(asked(self, steady_poly, plant, steady), row(*own_table_poly(told)))

    def test_greater(self):
        self.assertEqual(
            asked(self, greater_plant, CART, (1,)),
            (table((1, 1, 0), (0, 1, 0), (0, 0, 0)), ((table((0, 1, 0), (0, 0, 1)), table((1, 0, 0), (0, 0, 1))),)),
        )
        self.assertEqual(
            asked(self, greater_plant, SPLIT, (2, 1)),
            (
                table((2, 0, 0, 0), (0, 0, 0, 0), (0, 0, 0, 0), (0, 0, 0, 0)),
                (
                    (table((1, 0, 0, 0), (0, 1, 0, 0), (0, 0, 1, 0)), table((0, 1, 0, 0), (0, 0, 1, 0))),
                    (table((0, 0, 0, 1)), table((1, 0, 0, 0), (0, 0, 0, 1))),
                ),
            ),
        )
        self.assertEqual(asked(self, greater_plant, SPLIT, (0, 0)), SPLIT)
        self.assertEqual(asked(self, greater_plant, LONE, ()), LONE)
        for die, plant in small_plants(203, 30, entries=4):
            steady = some_steady(die, plant)
            memory = tuple(len(program[0]) for program in steady)
            greater = asked(self, greater_plant, plant, memory)
            self.assertIs(is_plant(greater), True)
            rules = asked(self, as_rules, plant, steady)
            self.assertIs(is_rules(greater, rules), True)
            self.assertEqual(table(*own_whole(greater, rules)), table(*own_steady_whole(plant, steady)))
            self.assertEqual(asked(self, as_steady, plant, memory, rules), steady)
            # Any RULES of the greater PLANT are those of some STEADY.
            other = some_rules(die, greater)
            found = asked(self, as_steady, plant, memory, other)
            self.assertIs(is_steady(plant, found), True)
            self.assertEqual(table(*own_steady_whole(plant, found)), table(*own_whole(greater, other)))

    def test_the_greater_one_has_the_same_stay(self):
        held = 0
        for die, plant in small_plants(204, 25, most_hands=2, most=1, entries=2):
            memory = tuple(die.randint(0, 1) for _ in plant[1])
            greater = greater_plant(plant, memory)
            self.assertEqual(stay(greater), stay(plant))
            for lot in lots_of(plant):
                self.assertEqual(parting_divisor(greater, lot), parting_divisor(plant, lot))
            held += len(stay(plant)) > 1
        self.assertGreater(held, 5)

    def test_as_rules_at_the_edges(self):
        self.assertEqual(asked(self, as_rules, CART, (CALM,)), (table((-3, 8), (1, -2)),))
        self.assertEqual(asked(self, as_rules, SPLIT, (MUTE, LOG)), (((),), (row(1, Fraction(1, 2)),)))
        self.assertEqual(asked(self, as_rules, LONE, ()), ())
        self.assertEqual(asked(self, as_steady, LONE, (), ()), ())
        self.assertEqual(asked(self, as_rules, MIXED, self.none_of(MIXED)), idle(MIXED))
        self.assertEqual(asked(self, as_steady, MIXED, (0, 0, 0, 0), idle(MIXED)), self.none_of(MIXED))
        self.assertEqual(asked(self, as_steady, (table((2,)), (((), ()),)), (2,), (BARE_TWO[0],)), (BARE_TWO,))

    def none_of(self, plant):
        return tuple(((), (), ((),) * len(levers), rule) for (levers, _), rule in zip(plant[1], idle(plant)))

    def test_as_steady_is_refused(self):
        rules = as_rules(CART, (CALM,))
        for other in (
            (), rules + rules, (rules[0][:1],), (rules[0] + rules[0][:1],), ((),), (tuple(line[:1] for line in rules[0]),),
            (table((-3, 8, 1), (1, -2, 1)),), idle(CART),
        ):
            refused(self, Unfit, {}, as_steady, CART, (1,), other)
        refused(self, Unfit, {}, as_steady, CART, (0,), rules)
        refused(self, Unfit, {}, as_steady, CART, (2,), rules)
        refused(self, Unfit, {}, as_steady, SPLIT, (0, 1), (((),),))
        refused(self, Unfit, {}, as_steady, LONE, (), ((),))


class At(unittest.TestCase):
    def test_rules_at(self):
        for die, plant in small_plants(205, 40):
            steady = some_steady(die, plant)
            for much in (Fraction(7), Fraction(-5, 2)):
                kept = [own_table_poly(number_rows(program[0])) for program in steady]
                if any(own_at(values, much) == 0 for values in kept):
                    refused(self, Unfit, {}, rules_at, plant, steady, pair(much))
                    continue
                rules = asked(self, rules_at, plant, steady, pair(much))
                self.assertIs(is_rules(plant, rules), True)
                # The poly of the whole there is that of the whole of these, times those of all keeps.
                told = own_at(own_table_poly(own_whole(plant, rules)), much)
                for values in kept:
                    told *= own_at(values, much)
                self.assertEqual(own_at(own_table_poly(own_steady_whole(plant, steady)), much), told)

    def test_edges(self):
        self.assertEqual(asked(self, rules_at, CART, (CALM,), (1, 1)), (table((Fraction(-1, 3),)),))
        self.assertEqual(asked(self, rules_at, SPLIT, (MUTE, LOG), (2, 1)), (((),), ()))
        self.assertEqual(asked(self, rules_at, LONE, (), (2, 1)), ())
        self.assertEqual(asked(self, rules_at, (table((2,)), (((), ()),)), (BARE_TWO,), (0, 1)), ((),))
        # Without memories nothing is barred.
        still = ((), (), ((),), table((4,)))
        self.assertEqual(asked(self, rules_at, CART, (still,), (0, 1)), (table((4,)),))
        refused(self, Unfit, {}, rules_at, CART, (CALM,), (-2, 1))
        refused(self, Unfit, {}, rules_at, CART, (TWICE,), (3, 1))
        # Of any hand, also one that nobody hears of.
        refused(self, Unfit, {}, rules_at, SPLIT, (MUTE, LOG), (1, 2))
        refused(self, Unfit, {}, rules_at, (table((2,)), (((), ()),)), ((table((5,)), ((),), (), ()),), (5, 1))


class Answers(unittest.TestCase):
    def test_answers(self):
        die = dice(206)
        for _ in range(40):
            levers, gauges, memories = die.randint(0, 3), die.randint(0, 3), die.randint(0, 3)
            plant = one_hand(levers, gauges)
            program = some_program(die, (levers, gauges), memories)
            many = die.randint(0, 7)
            found = asked(self, answers, plant, 0, program, many)
            if gauges:
                self.assertEqual(found, own_answers(program, gauges, many))
            else:
                self.assertEqual(found, (((),) * levers,) * many)

    def test_edges(self):
        self.assertEqual(asked(self, answers, CART, 0, CALM, 0), ())
        self.assertEqual(asked(self, answers, CART, 0, CALM, 1), (table((-3,)),))
        self.assertEqual(
            asked(self, answers, CART, 0, CALM, 12), (table((-3,)),) + tuple(table((8 * (-2) ** k,)) for k in range(11))
        )
        still = ((), (), ((), ()), table((4, 0), (1, 2)))
        self.assertEqual(
            asked(self, answers, one_hand(2, 2), 0, still, 3), (still[3], table((0, 0), (0, 0)), table((0, 0), (0, 0)))
        )
        self.assertEqual(asked(self, answers, SPLIT, 0, MUTE, 2), (((),), ((),)))
        self.assertEqual(asked(self, answers, SPLIT, 1, LOG, 2), ((), ()))
        self.assertEqual(asked(self, answers, MIXED, 3, BARE, 2), ((), ()))
        for hand in (2, -1):
            refused(self, NoHand, {"hand": hand}, answers, SPLIT, hand, LOG, 2)
            refused(self, NoHand, {"hand": hand}, alike, SPLIT, hand, LOG, LOG)
            refused(self, NoHand, {"hand": hand}, fewest_memories, SPLIT, hand, LOG)
            refused(self, NoHand, {"hand": hand}, leanest, SPLIT, hand, LOG)
            refused(self, NoHand, {"hand": hand}, is_leanest, SPLIT, hand, LOG, LOG)
            refused(self, NoHand, {"hand": hand}, is_leanest, SPLIT, hand, LOG, None)

    def test_alike(self):
        die = dice(207)
        kinds = {True: 0, False: 0}
        for _ in range(60):
            levers, gauges, memories = die.randint(1, 2), die.randint(1, 2), die.randint(0, 3)
            plant = one_hand(levers, gauges)
            one = some_program(die, (levers, gauges), memories, low=-1, high=1, bottoms=(1,))
            other = die.choice((
                based_program(die, one), with_idle_memory(one, gauges, 3),
                some_program(die, (levers, gauges), die.randint(0, 3), low=-1, high=1, bottoms=(1,)),
            ))
            told = own_answers(one, gauges, 12) == own_answers(other, gauges, 12)
            self.assertIs(asked(self, alike, plant, 0, one, other), told)
            self.assertIs(alike(plant, 0, other, one), told)
            kinds[told] += 1
        self.assertGreater(min(kinds.values()), 9)

    def test_alike_only_up_to_a_late_answer(self):
        # A row of memories: what is heard is told three ticks later, or never.
        chain = (table((0, 0, 0), (1, 0, 0), (0, 1, 0)), table((1,), (0,), (0,)), table((0, 0, 1)), table((0,)))
        deaf = (chain[0], table((0,), (0,), (0,)), chain[2], chain[3])
        still = ((), (), ((),), table((0,)))
        self.assertIs(asked(self, alike, CART, 0, chain, deaf), False)
        self.assertIs(asked(self, alike, CART, 0, chain, still), False)
        self.assertIs(asked(self, alike, CART, 0, deaf, still), True)
        self.assertEqual(asked(self, fewest_memories, CART, 0, chain), 3)
        self.assertEqual(asked(self, fewest_memories, CART, 0, deaf), 0)
        self.assertEqual(asked(self, leanest, CART, 0, deaf), still)

    def test_in_one_place_of_steady(self):
        die = dice(208)
        for _ in range(15):
            plant = some_plant(die, die.randint(1, 3), die.randint(1, 2))
            steady = some_steady(die, plant)
            hand = die.randrange(len(plant[1]))
            gauges = len(plant[1][hand][1])
            one, other = steady[hand], with_idle_memory(steady[hand], gauges, die.randint(-2, 2))
            self.assertIs(alike(plant, hand, one, other), True)
            later = steady[:hand] + (other,) + steady[hand + 1:]
            first, second = numbers(steady_poly(plant, steady)), numbers(steady_poly(plant, later))
            mine, others = own_table_poly(number_rows(one[0])), own_table_poly(number_rows(other[0]))
            self.assertEqual(own_product(first, others), own_product(second, mine))

    def test_leanest(self):
        die = dice(209)
        found = set()
        for _ in range(70):
            levers, gauges, memories = die.randint(0, 2), die.randint(0, 2), die.randint(0, 3)
            plant = one_hand(levers, gauges)
            program = some_program(die, (levers, gauges), memories, low=-1, high=1, bottoms=(1, 1, 2))
            if die.randint(0, 1):
                program = based_program(die, with_idle_memory(program, gauges, 2))
            told = own_fewest(program, gauges)
            self.assertEqual(asked(self, fewest_memories, plant, 0, program), told)
            lean = asked(self, leanest, plant, 0, program)
            self.assertEqual(len(lean[0]), told)
            self.assertIs(is_program(plant, 0, lean), True)
            self.assertIs(asked(self, is_leanest, plant, 0, program, lean), True)
            self.assertEqual(own_answers(lean, gauges, 10), own_answers(program, gauges, 10))
            self.assertIs(is_leanest(plant, 0, program, program), len(program[0]) == told)
            self.assertIs(is_leanest(plant, 0, program, based_program(die, lean)), True)
            self.assertIs(is_leanest(plant, 0, program, with_idle_memory(lean, gauges, 1)), False)
            found.add((len(program[0]), told))
        self.assertGreater(len(found), 8)

    def test_is_leanest(self):
        self.assertIs(asked(self, is_leanest, CART, 0, TWICE, CALM), True)
        self.assertIs(asked(self, is_leanest, CART, 0, TWICE, TWICE), False)
        self.assertIs(asked(self, is_leanest, CART, 0, CALM, (CALM[0], table((2,)), table((4,)), CALM[3])), True)
        for other in spoiled(CALM):
            self.assertIs(is_leanest(CART, 0, TWICE, other), False)
        for thing in OTHER_THINGS + (
            (CALM[0], CALM[1], table((7,)), CALM[3]), (table((-1,)), CALM[1], CALM[2], CALM[3]),
            (CALM[0], CALM[1], CALM[2], table((3,))), ((), (), ((),), table((-3,))), MUTE, LOG,
        ):
            self.assertIs(asked(self, is_leanest, CART, 0, TWICE, thing), False)
        self.assertIs(asked(self, is_leanest, SPLIT, 0, MUTE, MUTE), True)
        self.assertIs(asked(self, is_leanest, SPLIT, 1, LOG, BARE), True)
        self.assertIs(asked(self, is_leanest, SPLIT, 1, LOG, LOG), False)
        self.assertEqual(asked(self, fewest_memories, SPLIT, 1, LOG), 0)
        self.assertEqual(asked(self, fewest_memories, MIXED, 3, BARE_TWO), 0)
        self.assertEqual(asked(self, leanest, MIXED, 3, BARE_TWO), BARE)

    def test_great_numbers(self):
        die = dice(210)
        plant = one_hand(2, 2)
        program = (great_table(die, 3, 3), great_table(die, 3, 2), great_table(die, 2, 3), great_table(die, 2, 2))
        self.assertEqual(asked(self, fewest_memories, plant, 0, program), 3)
        self.assertIs(is_leanest(plant, 0, program, leanest(plant, 0, program)), True)
        self.assertEqual(asked(self, answers, plant, 0, program, 4), own_answers(program, 2, 4))
        other = with_idle_memory(program, 2, Fraction(10 ** 40, 7))
        self.assertIs(asked(self, alike, plant, 0, program, other), True)


if __name__ == "__main__":
    unittest.main()

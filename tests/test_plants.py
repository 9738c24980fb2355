"""Plants [8]."""

import unittest
from fractions import Fraction
from itertools import product as all_of

from handsunread.errors import NoHand, NoWire, Unfit
from handsunread.plants import (
    all_rules, based, idle, is_plant, is_rules, joined_hands, only_hands, renamed, sizes, turned_about, whole, wire_row,
    wires,
)
from handsunread.polys import table_poly
from handsunread.tables import turned
from tests.own import (
    NO_FRACTIONS, OTHER_THINGS, asked, dice, is_none_spoiled, number_rows, numbers, own_applied, own_det, own_times,
    refused, row, some_plant, some_row, some_rules, some_table, table,
)

# Hands of all kinds: with both, without gauges, without levers, with neither.
MIXED = (
    table((1, 2), (0, Fraction(1, 2))),
    (
        (table((1, 0), (0, 3)), table((0, 1))),
        (table((1, 1)), ()),
        ((), table((1, -1), (2, 0))),
        ((), ()),
    ),
)
LONE = (table((2,)), ())


def own_whole(plant, rules):
    found = number_rows(plant[0])
    for (levers, gauges), rule in zip(plant[1], rules):
        for place, lever in enumerate(number_rows(levers)):
            for other, gauge in enumerate(number_rows(gauges)):
                much = numbers(rule[place])[other]
                found = [
                    [value + lever[i] * much * gauge[j] for j, value in enumerate(line)] for i, line in enumerate(found)
                ]
    return found


def own_wires(plant):
    found = []
    for hand, (levers, gauges) in enumerate(plant[1]):
        found.extend((hand, "lever", at) for at in range(len(levers)))
        found.extend((hand, "gauge", at) for at in range(len(gauges)))
    return tuple(sorted(found))


class IsPlant(unittest.TestCase):
    def test_plants(self):
        is_none_spoiled(self, is_plant, MIXED)
        is_none_spoiled(self, is_plant, LONE)
        die = dice(8)
        for _ in range(20):
            self.assertIs(asked(self, is_plant, some_plant(die, die.randint(1, 5), die.randint(0, 4), most=3)), True)
        self.assertIs(is_plant(some_plant(die, 9, 7, most=6)), True)

    def test_no_plants(self):
        one = table((1,))
        for thing in (
            (), (one,), (one, (), ()), ((), ()), (((),), ()), (table((1, 2)), ()), (table((1,), (2,)), ()),
            (table((1, 2), (3,)), ()), (one, ((),)), (one, (((),),)), (one, (((), (), ()),)), (one, ((one, table((1, 2))),)),
            (one, ((table((1, 2)), one),)), (one, (((), ((),)),)), (one, ((((),), ()),)), (one, (one,)), (one, ((1, 1),)),
            (one, (((), None),)), (one, None), (None, ()), (one[0], ()), (table((1, 0), (0, 1)), ((one, ()),)),
        ) + OTHER_THINGS:
            self.assertIs(is_plant(thing), False, thing)
        for part in NO_FRACTIONS:
            self.assertIs(is_plant((((part,),), ())), False)
            self.assertIs(is_plant((one, ((((part,),), ()),))), False)
            self.assertIs(is_plant((one, (((), ((part,),)),))), False)


class Wires(unittest.TestCase):
    def test_sizes_and_wires(self):
        self.assertEqual(asked(self, sizes, MIXED), ((2, 1), (1, 0), (0, 2), (0, 0)))
        self.assertEqual(asked(self, sizes, LONE), ())
        self.assertEqual(asked(self, wires, LONE), ())
        die = dice(81)
        for _ in range(20):
            plant = some_plant(die, die.randint(1, 3), die.randint(0, 4), most=3)
            found = asked(self, wires, plant)
            self.assertEqual(found, own_wires(plant))
            for hand, word, number in found:
                told = plant[1][hand][0 if word == "lever" else 1][number]
                self.assertEqual(asked(self, wire_row, plant, (hand, word, number)), told)

    def test_errors(self):
        for hand in (4, -1, -4, 10 ** 20):
            for wire in ((hand, "lever", 0), (hand, "gauge", 9), (hand, "gauge", -1)):
                refused(self, NoHand, {"hand": hand}, wire_row, MIXED, wire)
        refused(self, NoHand, {"hand": 0}, wire_row, LONE, (0, "lever", 0))
        for wire in (
            (0, "lever", 2), (0, "gauge", 1), (1, "gauge", 0), (2, "lever", 0), (3, "lever", 0), (3, "gauge", 0),
            (0, "lever", -1), (0, "gauge", -1), (2, "gauge", -2), (1, "lever", 1),
        ):
            refused(self, NoWire, {"wire": wire}, wire_row, MIXED, wire)
        refused(self, NoWire, {"wire": (0, "wheel", 0)}, wire_row, MIXED, (0, "wheel", 0))


class Rules(unittest.TestCase):
    def test_is_rules(self):
        rules = (table((1,), (Fraction(1, 2),)), ((),), (), ())
        is_none_spoiled(self, is_rules, MIXED, rules)
        self.assertIs(asked(self, is_rules, LONE, ()), True)
        for thing in (
            rules[:3], rules + ((),), (table((1,)), ((),), (), ()), (table((1, 1), (1, 1)), ((),), (), ()),
            (rules[0], (), (), ()), (rules[0], ((), ()), (), ()), (rules[0], ((),), ((),), ()),
            (rules[0], table((1,)), (), ()), (rules[0], ((),), (), ((),)), (row(1, 1), ((),), (), ()), (),
        ) + OTHER_THINGS:
            self.assertIs(is_rules(MIXED, thing), False, thing)
        for thing in (((),), None, (), [])[:2] + ([],):
            self.assertIs(is_rules(LONE, thing), False)
        for part in NO_FRACTIONS:
            self.assertIs(is_rules(MIXED, (((part,), row(1)), ((),), (), ())), False)

    def test_idle(self):
        self.assertEqual(asked(self, idle, MIXED), (table((0,), (0,)), ((),), (), ()))
        self.assertEqual(asked(self, idle, LONE), ())
        self.assertIs(is_rules(MIXED, idle(MIXED)), True)

    def test_all_rules(self):
        self.assertEqual(asked(self, all_rules, LONE), [()])
        blind = (table((1,)), ((table((1,)), ()), ((), table((1,))), ((), ())))
        self.assertEqual(asked(self, all_rules, blind), [(((),), (), ())])
        die = dice(82)
        for _ in range(15):
            plant = some_plant(die, die.randint(1, 3), die.randint(0, 3), most=2)
            if sum(len(levers) * len(gauges) for levers, gauges in plant[1]) <= 8:
                self.told(plant)
        one = table((1,))
        self.told((one, ((one * 2, one * 3), (one, one * 2))))

    def told(self, plant):
        found = asked(self, all_rules, plant)
        by_hand = []
        for levers, gauges in plant[1]:
            lines = [line for line in all_of(((0, 1), (1, 1)), repeat=len(gauges))]
            by_hand.append([rule for rule in all_of(lines, repeat=len(levers))])
        self.assertEqual(found, sorted(all_of(*by_hand)))
        self.assertTrue(all(is_rules(plant, rules) for rules in found))
        found.append(None)
        self.assertEqual(len(all_rules(plant)), len(found) - 1)

    def test_whole(self):
        self.assertEqual(asked(self, whole, LONE, ()), LONE[0])
        self.assertEqual(asked(self, whole, MIXED, idle(MIXED)), MIXED[0])
        die = dice(83)
        for _ in range(60):
            plant = some_plant(die, die.randint(1, 4), die.randint(0, 3), most=3)
            rules = some_rules(die, plant)
            self.assertEqual(asked(self, whole, plant, rules), table(*own_whole(plant, rules)))
            self.assertEqual(whole(plant, idle(plant)), plant[0])


class Others(unittest.TestCase):
    def test_renamed(self):
        die = dice(84)
        for _ in range(30):
            cells = die.randint(1, 4)
            plant, places = some_plant(die, cells, die.randint(0, 3)), list(range(cells))
            die.shuffle(places)
            found = asked(self, renamed, plant, tuple(places))
            for i in range(cells):
                for j in range(cells):
                    self.assertEqual(found[0][places[i]][places[j]], plant[0][i][j])
            self.assertEqual(sizes(found), sizes(plant))
            for wire in wires(plant):
                for i in range(cells):
                    self.assertEqual(wire_row(found, wire)[places[i]], wire_row(plant, wire)[i])
            rules = some_rules(die, plant)
            self.assertEqual(table_poly(whole(found, rules)), table_poly(whole(plant, rules)))

    def test_places_that_do_not_fit(self):
        for places in ((), (0,), (1,), (0, 0), (1, 1), (0, 2), (-1, 0), (1, 2), (0, 1, 2), (0, 1, 1), (-1, 1)):
            refused(self, Unfit, {}, renamed, MIXED, places)
        refused(self, Unfit, {}, renamed, LONE, (1,))
        self.assertEqual(asked(self, renamed, LONE, (0,)), LONE)

    def test_based(self):
        die = dice(85)
        kinds = [0, 0]
        for _ in range(50):
            cells = die.randint(1, 3)
            plant, base = some_plant(die, cells, die.randint(0, 3)), some_table(die, cells, cells, low=-1, high=2)
            own = number_rows(base)
            if not own_det(own):
                refused(self, Unfit, {}, based, plant, base)
                kinds[0] += 1
                continue
            kinds[1] += 1
            found = asked(self, based, plant, base)
            self.assertEqual(own_times(number_rows(found[0]), own), own_times(own, number_rows(plant[0])))
            self.assertEqual(sizes(found), sizes(plant))
            for wire in wires(plant):
                old, new = numbers(wire_row(plant, wire)), numbers(wire_row(found, wire))
                if wire[1] == "lever":
                    self.assertEqual(new, own_applied(own, old))
                else:
                    self.assertEqual(own_applied(list(zip(*own)), new), old)
            rules = some_rules(die, plant)
            self.assertEqual(table_poly(whole(found, rules)), table_poly(whole(plant, rules)))
        self.assertGreater(min(kinds), 4)

    def test_bases_that_do_not_fit(self):
        for base in (
            (), table((1,)), table((1, 0)), table((1,), (0,)), table((1, 0, 0), (0, 1, 0)), table((1, 0), (0, 1), (0, 0)),
            table((1, 0, 0), (0, 1, 0), (0, 0, 1)), table((1, 2), (2, 4)), table((0, 0), (0, 0)), ((), ()),
        ):
            refused(self, Unfit, {}, based, MIXED, base)

    def test_turned_about(self):
        die = dice(86)
        self.assertEqual(asked(self, turned_about, LONE), LONE)
        for _ in range(30):
            plant = some_plant(die, die.randint(1, 3), die.randint(0, 3))
            found = asked(self, turned_about, plant)
            self.assertEqual(found, (turned(plant[0]), tuple((gauges, levers) for levers, gauges in plant[1])))
            self.assertEqual(turned_about(found), plant)
            rules = some_rules(die, plant)
            about = tuple(
                tuple(tuple(rule[lever][gauge] for lever in range(len(rule))) for gauge in range(len(gauges)))
                for rule, (_, gauges) in zip(rules, plant[1])
            )
            self.assertEqual(whole(found, about), turned(whole(plant, rules)))

    def test_only_hands(self):
        self.assertEqual(asked(self, only_hands, MIXED, ()), (MIXED[0], ()))
        self.assertEqual(asked(self, only_hands, MIXED, (0, 1, 2, 3)), MIXED)
        self.assertEqual(asked(self, only_hands, MIXED, (1, 3)), (MIXED[0], (MIXED[1][1], MIXED[1][3])))
        self.assertEqual(asked(self, only_hands, LONE, ()), LONE)
        for lot, wrong in (((4,), 4), ((0, 5, 9), 5), ((-1, 0), -1), ((-2, 8), -2)):
            refused(self, NoHand, {"hand": wrong}, only_hands, MIXED, lot)
            refused(self, NoHand, {"hand": wrong}, joined_hands, MIXED, lot)
        refused(self, NoHand, {"hand": 0}, only_hands, LONE, (0,))

    def test_joined_hands(self):
        first, second, third, fourth = MIXED[1]
        for lot, told in (
            ((0,), MIXED[1]), ((3,), MIXED[1]),
            ((0, 1), ((first[0] + second[0], first[1]), third, fourth)),
            ((1, 3), (first, second, third)),
            ((0, 2), ((first[0], first[1] + third[1]), second, fourth)),
            ((1, 2), (first, (second[0], third[1]), fourth)),
            ((0, 1, 2, 3), ((first[0] + second[0], first[1] + third[1]),)),
        ):
            self.assertEqual(asked(self, joined_hands, MIXED, lot), (MIXED[0], told))
        refused(self, Unfit, {}, joined_hands, MIXED, ())
        refused(self, Unfit, {}, joined_hands, LONE, ())

    def test_joined_hands_can_do_as_ahead(self):
        die = dice(87)
        for _ in range(30):
            plant = some_plant(die, die.randint(1, 3), 3)
            rules = some_rules(die, plant)
            lot = die.choice(((0, 1), (1, 2), (0, 2), (0, 1, 2)))
            many = sum(len(plant[1][hand][1]) for hand in lot)
            joined, ahead = (), 0
            for hand in lot:
                own = len(plant[1][hand][1])
                behind = many - own - ahead
                joined += tuple(row(*[0] * ahead) + line + row(*[0] * behind) for line in rules[hand])
                ahead += own
            others = [joined if hand == lot[0] else rules[hand] for hand in range(3) if hand == lot[0] or hand not in lot]
            self.assertEqual(whole(joined_hands(plant, lot), tuple(others)), whole(plant, rules))

    def test_rows_that_are_shown_stay(self):
        die = dice(88)
        plant, base = some_plant(die, 2, 2, most=3), table((1, 1), (0, 1))
        start, reading = some_row(die, 2), some_row(die, 2)
        found = based(plant, base)
        moved = own_applied(number_rows(base), numbers(start))
        back = own_applied([[1, 0], [-1, 1]], numbers(reading))
        for _ in range(3):
            one = sum(a * b for a, b in zip(numbers(reading), numbers(start)))
            self.assertEqual(sum(a * b for a, b in zip(back, moved)), one)
            start = row(*own_applied(number_rows(plant[0]), numbers(start)))
            moved = own_applied(number_rows(found[0]), moved)


if __name__ == "__main__":
    unittest.main()

"""What stays [16]."""

import unittest
from fractions import Fraction
from itertools import product as all_of

from handsunread.errors import NoPaper
from handsunread.plants import all_rules, idle, is_rules
from handsunread.polys import divides
from handsunread.sight import sight
from handsunread.staying import (
    few_rules, free_rules, held_part, is_few_rules, is_stay_paper, shared_by, stay, stay_paper, stays, stays_often,
)
from tests.own import (
    NO_FRACTIONS, OTHER_THINGS, asked, dice, great_table, listed, number_rows, numbers, own_common, own_divided,
    own_product, own_table_poly, poly, refused, rooted, row, some_rules, spoiled, table,
)
from tests.test_partings import BOTH, TONES, lots_of, own_divisor, small_plants
from tests.test_plants import LONE, MIXED, own_whole
from tests.test_plays import some_steady
from tests.test_sight import own_steady_whole

# The examples of the document.
BLIND = (table((2,)), ((table((1,)), ()), ((), table((1,)))))
RING = (
    table((2, 0, 0), (0, 3, 0), (0, 0, 1)),
    ((table((0, 1, 1)), table((1, 0, 0))), (table((1, 0, 0)), table((0, 1, 1)))),
)
BOTH_ONE = (table((1,)), table((1,)))
# One cell that is moved as it is seen: the poly is x less the RULE's number.
SEEING = (table((0,)), ((table((1,)), table((1,))),))
# Two cells that two hands keep each by itself.
TWICE = (table((0, 0), (0, 0)), ((table((1, 0)), table((1, 0))), (table((0, 1)), table((0, 1)))))


def own_poly_of(plant, rules):
    return own_table_poly(own_whole(plant, rules))


def own_stay(plant):
    return own_common(own_poly_of(plant, rules) for rules in all_rules(plant))


def have_common(one, other):
    return len(own_common([one, other])) > 1


class Stay(unittest.TestCase):
    def test_by_all_rules(self):
        found = set()
        for _, plant in small_plants(190, 60):
            told = own_stay(plant)
            self.assertEqual(asked(self, stay, plant), row(*told))
            found.add(tuple(told))
        self.assertGreater(len(found), 15)

    def test_it_divides_all_that_is_steady(self):
        great = 0
        for die, plant in small_plants(191, 50):
            found = stay(plant)
            self.assertTrue(divides(found, row(*own_poly_of(plant, some_rules(die, plant, low=-9, high=9)))))
            steady = some_steady(die, plant)
            self.assertTrue(divides(found, row(*own_table_poly(own_steady_whole(plant, steady)))))
            # What is in sight stays.
            self.assertTrue(divides(sight(plant), found))
            great += len(found) > 1
        self.assertGreater(great, 15)

    def test_tones(self):
        kinds = set()
        for _, plant in small_plants(192, 50):
            told = own_stay(plant)
            for tone in TONES + (rooted(0, 0), rooted(1, 1)):
                own = numbers(tone)
                often, power = 0, own
                while len(power) <= len(told) and not own_divided(told, power):
                    often, power = often + 1, own_product(power, own)
                self.assertIs(stays(plant, tone), often > 0)
                self.assertEqual(stays_often(plant, tone), often)
                self.assertEqual(held_part(plant, tone), row(*own_common([told, own])))
                # It has a factor in common with what stays exactly if it has one with the divisor of some parting.
                self.assertEqual(stay_paper(plant, tone)[0] == "lot", len(held_part(plant, tone)) > 1)
                kinds.add((often, held_part(plant, tone)))
        self.assertGreater(len(kinds), 8)

    def test_edges(self):
        self.assertEqual(asked(self, stay, LONE), rooted(2))
        self.assertEqual(asked(self, stay, MIXED), rooted(1))
        self.assertEqual(asked(self, stay, (table((5, 0), (0, 7)), (((), ()), ((), ())))), rooted(5, 7))
        self.assertEqual(asked(self, stay, RING), rooted(2))
        self.assertEqual(asked(self, stay, BOTH), rooted(0))
        self.assertEqual(asked(self, stay, TWICE), poly(1))
        self.assertIs(asked(self, stays, LONE, rooted(2)), True)
        self.assertIs(asked(self, stays, LONE, rooted(2, 2)), False)
        self.assertIs(asked(self, stays, LONE, rooted(2, 3)), False)
        self.assertIs(asked(self, stays, RING, rooted(1)), False)
        often = (table((0, 1, 0), (0, 0, 0), (0, 0, 3)), ())
        self.assertEqual(asked(self, stays_often, often, rooted(0)), 2)
        self.assertEqual(asked(self, stays_often, often, rooted(0, 0)), 1)
        self.assertEqual(asked(self, stays_often, often, rooted(0, 3)), 1)
        self.assertEqual(asked(self, stays_often, often, rooted(0, 0, 0)), 0)
        self.assertEqual(asked(self, held_part, often, rooted(0, 0, 0, 3, 3, 5)), rooted(0, 0, 3))
        self.assertEqual(asked(self, held_part, often, rooted(1)), poly(1))
        self.assertEqual(asked(self, held_part, MIXED, rooted(1, 1)), rooted(1))

    def test_shared_by(self):
        for die, plant in small_plants(193, 40):
            some = tuple(some_rules(die, plant) for _ in range(die.randint(1, 4)))
            told = own_common(own_poly_of(plant, rules) for rules in some)
            self.assertEqual(asked(self, shared_by, plant, some), row(*told))
            self.assertTrue(divides(stay(plant), shared_by(plant, some)))
        self.assertEqual(asked(self, shared_by, RING, (BOTH_ONE,)), poly(-2, 9, -6, 1))
        self.assertEqual(asked(self, shared_by, RING, (BOTH_ONE, BOTH_ONE)), poly(-2, 9, -6, 1))
        self.assertEqual(asked(self, shared_by, LONE, ((),)), rooted(2))
        self.assertEqual(asked(self, shared_by, SEEING, ((table((Fraction(1, 2),)),),)), rooted(Fraction(1, 2)))

    def test_great_numbers(self):
        die = dice(194)
        plant = (great_table(die, 4, 4), tuple((great_table(die, 2, 4), great_table(die, 2, 4)) for _ in range(2)))
        self.assertEqual(asked(self, stay, plant), poly(1))
        own = number_rows(great_table(die, 4, 4))
        # Cell 0 is apart from all others, and no hand is at it.
        apart = [
            [value if at and place or at == place else 0 for at, value in enumerate(line)]
            for place, line in enumerate(own)
        ]
        off = tuple(
            tuple(tuple(((0, 1),) + line[1:] for line in rows) for rows in hand) for hand in plant[1]
        )
        plant = (table(*apart), off)
        self.assertEqual(asked(self, stay, plant), rooted(own[0][0]))
        self.assertEqual(stay_paper(plant, rooted(own[0][0])), ("lot", ()))
        self.assertIs(is_few_rules(plant, few_rules(plant)), True)


class Papers(unittest.TestCase):
    def test_papers(self):
        words = {"lot": 0, "rules": 0}
        for _, plant in small_plants(195, 50):
            told = own_stay(plant)
            for tone in TONES:
                held = have_common(told, numbers(tone))
                thing = asked(self, stay_paper, plant, tone)
                self.assertEqual(thing[0], "lot" if held else "rules")
                self.assertIs(asked(self, is_stay_paper, plant, tone, thing), True)
                if held:
                    self.assertTrue(have_common(own_divisor(plant, thing[1]), numbers(tone)))
                    refused(self, NoPaper, {}, free_rules, plant, tone)
                else:
                    self.free(plant, tone, thing[1])
                    self.free(plant, tone, asked(self, free_rules, plant, tone))
                words[thing[0]] += 1
        self.assertGreater(min(words.values()), 50)

    def free(self, plant, tone, rules):
        self.assertTrue(is_rules(plant, rules))
        for part in (part for rule in rules for line in rule for part in line):
            self.assertTrue(part[1] == 1 and 0 <= part[0] < len(tone))
        self.assertFalse(have_common(own_poly_of(plant, rules), numbers(tone)))

    def test_numbers_above_one(self):
        self.assertEqual(asked(self, free_rules, SEEING, rooted(0)), (table((1,)),))
        self.assertEqual(asked(self, free_rules, SEEING, rooted(0, 1)), (table((2,)),))
        self.assertEqual(asked(self, free_rules, SEEING, rooted(*range(6))), (table((6,)),))
        self.assertEqual(asked(self, stay_paper, SEEING, rooted(*range(6))), ("rules", (table((6,)),)))
        found = asked(self, free_rules, TWICE, rooted(*range(6)))
        self.assertEqual(found, (table((6,)), table((6,))))
        self.free(TWICE, rooted(0, 1, 2), free_rules(TWICE, rooted(0, 1, 2)))

    def test_all_lots_and_rules(self):
        # Each lot and each of some RULES is a paper exactly if it is what the document describes.
        for die, plant in small_plants(196, 25):
            for tone in TONES[:6]:
                own = numbers(tone)
                for lot in lots_of(plant):
                    told = have_common(own_divisor(plant, lot), own)
                    self.assertIs(is_stay_paper(plant, tone, ("lot", lot)), told)
                for _ in range(4):
                    rules = some_rules(die, plant)
                    told = not have_common(own_poly_of(plant, rules), own)
                    self.assertIs(is_stay_paper(plant, tone, ("rules", rules)), told)

    def test_spoiled(self):
        tone = rooted(2)
        thing = ("lot", (0,))
        self.assertIs(asked(self, is_stay_paper, RING, tone, thing), True)
        self.assertIs(is_stay_paper(RING, rooted(2, 1), thing), True)
        for other in spoiled(thing) + [
            ("lot", ()), ("lot", (0, 1)), ("lot", (1,)), ("lot", (2,)), ("lot", (-2,)), ("lot", (0, 0)), ("lot", [0]),
            ("lot", 0), ("lot",), ("lot", (0,), ()), ("rules", (0,)), ("Lot", (0,)), (0,), thing[::-1], ["lot", (0,)],
            ("rules", BOTH_ONE), ("rules", idle(RING)),
        ] + list(OTHER_THINGS):
            self.assertIs(is_stay_paper(RING, tone, other), False, other)
        # The ring's poly is (x - 2) times (x - 1) (x - 3) - 2 k q: 4 is a zero of it where k q is 3 / 2.
        tone, thing = rooted(4), ("rules", (table((1,)), table((Fraction(1, 2),))))
        self.assertIs(asked(self, is_stay_paper, RING, tone, thing), True)
        self.assertIs(is_stay_paper(RING, tone, ("rules", (table((3,)), table((Fraction(1, 2),))))), False)
        for other in spoiled(thing) + [
            ("lot", (0,)), ("lot", ()), ("rules", thing[1][:1]), ("rules", thing[1] + ((),)), ("rules", ()), ("rules", ((), ())),
            ("rules", (table((1, 1)), table((1,)))), ("rules", listed(thing[1])), ("lot", thing[1]), thing[1],
        ]:
            self.assertIs(is_stay_paper(RING, tone, other), False, other)
        for part in NO_FRACTIONS:
            self.assertIs(is_stay_paper(RING, tone, ("rules", (((part,),), table((1,))))), False)

    def test_edges(self):
        self.assertEqual(asked(self, stay_paper, LONE, rooted(2)), ("lot", ()))
        self.assertEqual(asked(self, stay_paper, LONE, rooted(3)), ("rules", ()))
        self.assertEqual(asked(self, free_rules, LONE, rooted(3)), ())
        refused(self, NoPaper, {}, free_rules, LONE, rooted(2))
        refused(self, NoPaper, {}, free_rules, LONE, rooted(3, 2))
        refused(self, NoPaper, {}, free_rules, BLIND, rooted(2))
        self.assertEqual(asked(self, free_rules, BLIND, rooted(3)), (((),), ()))
        refused(self, NoPaper, {}, free_rules, MIXED, rooted(1, 5))
        self.assertIs(is_stay_paper(MIXED, rooted(5), asked(self, stay_paper, MIXED, rooted(5))), True)


def own_is_few(plant, some):
    told = own_stay(plant)
    polys = [own_poly_of(plant, rules) for rules in some]
    if own_common(polys) != told:
        return False
    return len(some) == 1 or all(own_common(polys[:at] + polys[at + 1:]) != told for at in range(len(some)))


class FewRules(unittest.TestCase):
    def test_few(self):
        longs = set()
        for _, plant in small_plants(197, 60):
            thing = asked(self, few_rules, plant)
            self.assertIs(asked(self, is_few_rules, plant, thing), True)
            self.assertIs(is_few_rules(plant, thing[::-1]), True)
            self.assertTrue(own_is_few(plant, thing))
            self.assertTrue(all(rules in all_rules(plant) for rules in thing))
            longs.add(len(thing))
        self.assertGreaterEqual(len(longs), 2)

    def test_all_tuples(self):
        found = [0, 0]
        for _, plant in small_plants(198, 30, most_cells=2, most_hands=2, entries=2):
            for many in range(5):
                for some in all_of(all_rules(plant), repeat=many) if many < 4 else [tuple(all_rules(plant))]:
                    told = many > 0 and own_is_few(plant, some)
                    self.assertIs(is_few_rules(plant, some), told)
                    found[told] += 1
        self.assertGreater(min(found), 30)

    def test_one_too_many_is_left_out(self):
        # The polys are x x, x (x - 1), (x - 1) x and (x - 1) (x - 1): the two in the midst are needless.
        rules = all_rules(TWICE)
        self.assertIs(asked(self, is_few_rules, TWICE, (rules[0], rules[3])), True)
        self.assertIs(is_few_rules(TWICE, (rules[3], rules[0])), True)
        for some in (rules, rules[:1], rules[:2], rules[1:3], rules[:3], rules[1:], [rules[0], rules[0], rules[3]]):
            self.assertIs(is_few_rules(TWICE, tuple(some)), False)
        self.assertEqual(asked(self, few_rules, TWICE), (rules[0], rules[3]))

    def test_many_are_needed(self):
        # Each of three hands keeps one cell, one of three at a time must not: x - 1, x - 2, x - 3 each in all but one.
        plant = (
            table((1, 0, 0), (0, 2, 0), (0, 0, 3)),
            (
                (table((1, 0, 0)), table((1, 0, 0))), (table((0, 1, 0)), table((0, 1, 0))),
                (table((0, 0, 2)), table((0, 0, 1))),
            ),
        )
        off, on = table((0,)), table((1,))
        # (x - 2) (x - 2) (x - 3), (x - 1) (x - 3) (x - 3), (x - 1) (x - 2) (x - 5).
        three = ((on, off, off), (off, on, off), (off, off, on))
        self.assertEqual(stay(plant), poly(1))
        self.assertIs(asked(self, is_few_rules, plant, three), own_is_few(plant, three))
        self.assertIs(own_is_few(plant, three), True)
        self.assertIs(is_few_rules(plant, three + ((off, off, off),)), False)
        self.assertIs(is_few_rules(plant, three[:2]), False)

    def test_spoiled(self):
        rules = all_rules(TWICE)
        thing = (rules[0], rules[3])
        for other in spoiled(thing) + [
            (), (rules[0], (table((2,)), table((2,)))), (rules[0], (table((1,)), table((-1,)))), rules[0], thing + thing,
            (rules[0], (table((1,)), table((Fraction(1, 2),)))), (rules[0], rules[3][:1]), (rules[0], None), listed(thing),
            (rules[0], ()), (rules[0], (((),), ((),))), (rules[0], rules[3] + ((),)), thing * 40, tuple(rules) * 100,
        ] + list(OTHER_THINGS):
            self.assertIs(is_few_rules(TWICE, other), False, other)
        for part in NO_FRACTIONS:
            self.assertIs(is_few_rules(TWICE, (rules[0], (((part,),), table((1,))))), False)

    def test_edges(self):
        self.assertEqual(asked(self, few_rules, LONE), ((),))
        self.assertIs(asked(self, is_few_rules, LONE, ((),)), True)
        for thing in ((), ((), ()), (((),),), None):
            self.assertIs(is_few_rules(LONE, thing), False)
        self.assertEqual(asked(self, few_rules, BLIND), ((((),), ()),))
        self.assertIs(asked(self, is_few_rules, MIXED, asked(self, few_rules, MIXED)), True)


if __name__ == "__main__":
    unittest.main()

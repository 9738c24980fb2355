"""Wires and talks [18]."""

import unittest
from fractions import Fraction
from itertools import combinations

from handsunread.errors import NoHand, NoPaper, NoWire, Unfit
from handsunread.partings import parting_divisor
from handsunread.plants import all_rules, is_plant, sizes, wire_row, wires
from handsunread.wires import (
    bar, cheapest_offers, fewest_offers, fewest_talks, is_bar, is_offer, needless, with_offers, with_talks,
    without_wire,
)
from tests.own import (
    NO_FRACTIONS, OTHER_THINGS, asked, dice, great_row, great_table, is_none_spoiled, numbers, own_common,
    own_table_poly, poly, refused, rooted, row, table, unit_rows,
)
from tests.test_partings import TONES, lots_of, own_divisor, own_rank_at, small_plants
from tests.test_plants import LONE, MIXED, own_whole
from tests.test_staying import have_common

# The examples of the document.
SPLIT = (table((1,)), ((table((1,)), ()), ((), table((1,)))))
SPLIT_OFFERS = ((0, "gauge", row(1)), (1, "lever", row(2)))
RING = (
    table((0, 0, 0), (0, 1, 0), (0, 0, -1)),
    ((table((0, 1, 1)), table((1, 0, 0))), (table((1, 0, 0)), table((0, 1, 1)))),
)
# Three cells, one hand at each but for wires that are offered.
ROOMS = (
    table((1, 0, 0), (0, 1, 0), (0, 0, 1)),
    (
        (table((1, 0, 0)), table((1, 0, 0))), (table((0, 1, 0)), ()), ((), table((0, 0, 1))),
    ),
)


def own_free(plant, tone):
    """Whether no TONE divides this one and the polys of all RULES of 0 and 1."""
    common = numbers(tone)
    for rules in all_rules(plant):
        common = own_common([common, own_table_poly(own_whole(plant, rules))])
        if len(common) == 1:
            return True
    return False


def rooms(seed, many, most_hands=3):
    """PLANTS of few cells apart, at each of which several hands each have a wire or two: much is free by little more."""
    die = dice(seed)
    for _ in range(many):
        cells, hands = die.randint(1, 2), die.randint(0, most_hands)
        values = [die.choice((0, 1, 1, 2)) for _ in range(cells)]
        rows = table(*[[value * (at == place) for at in range(cells)] for place, value in enumerate(values)])
        yield die, (rows, tuple(
            (unit_rows(die, die.randint(0, 1), cells), unit_rows(die, die.randint(0, 1), cells)) for _ in range(hands)
        ))


def own_with(plant, offers):
    hands = [[list(levers), list(gauges)] for levers, gauges in plant[1]]
    for hand, word, line in offers:
        hands[hand][("lever", "gauge").index(word)].append(line)
    return plant[0], tuple((tuple(levers), tuple(gauges)) for levers, gauges in hands)


def own_talked(plant, talks):
    offers = [(hearer, "gauge", gauge) for teller, hearer in sorted(talks) for gauge in plant[1][teller][1]]
    return own_with(plant, offers)


def entries(plant):
    return sum(len(levers) * len(gauges) for levers, gauges in plant[1])


def talks_of(plant):
    hands = range(len(plant[1]))
    return [(one, other) for one in hands for other in hands if one != other]


def sets_of(things):
    """All sets, those with the fewest members first, of as many the least first."""
    return [some for many in range(len(things) + 1) for some in combinations(things, many)]


def some_offers(die, plant, most):
    if not plant[1]:
        return ()
    return tuple(
        (die.randrange(len(plant[1])), die.choice(("lever", "gauge")), unit_rows(die, 1, len(plant[0]))[0])
        for _ in range(die.randint(0, most))
    )


class Wires(unittest.TestCase):
    def test_without_wire(self):
        for _, plant in small_plants(220, 40):
            for wire in wires(plant):
                found = asked(self, without_wire, plant, wire)
                self.assertIs(is_plant(found), True)
                left = [other for other in wires(plant) if other != wire]
                self.assertEqual(len(wires(found)), len(left))
                # All others are there, in their order, the later ones of its kind and hand one place further up.
                for hand, word, number in left:
                    now = number - (hand == wire[0] and word == wire[1] and number > wire[2])
                    self.assertEqual(wire_row(found, (hand, word, now)), wire_row(plant, (hand, word, number)))
        self.assertEqual(
            asked(self, without_wire, MIXED, (0, "lever", 0))[1][0], (table((0, 3)), table((0, 1)))
        )
        self.assertEqual(asked(self, without_wire, MIXED, (2, "gauge", 1))[1][2], ((), table((1, -1))))
        self.assertEqual(asked(self, without_wire, SPLIT, (1, "gauge", 0)), (SPLIT[0], (SPLIT[1][0], ((), ()))))

    def test_no_wire(self):
        for wire in ((0, "lever", 2), (0, "gauge", 1), (1, "gauge", 0), (3, "lever", 0), (0, "lever", -1)):
            refused(self, NoWire, {"wire": wire}, without_wire, MIXED, wire)
        for hand in (4, -1):
            refused(self, NoHand, {"hand": hand}, without_wire, MIXED, (hand, "lever", 0))
        refused(self, NoHand, {"hand": 0}, without_wire, LONE, (0, "gauge", 0))

    def test_is_offer(self):
        is_none_spoiled(self, is_offer, MIXED, (3, "lever", row(1, Fraction(-2, 3))))
        for offer in ((0, "gauge", row(0, 0)), (3, "gauge", row(1, 5))):
            self.assertIs(asked(self, is_offer, MIXED, offer), True)
        for thing in OTHER_THINGS + (
            (4, "lever", row(1, 2)), (-1, "lever", row(1, 2)), (0, "levers", row(1, 2)), (0, "", row(1, 2)),
            (0, "lever", row(1)), (0, "lever", row(1, 2, 3)), (0, "lever", ()), (0, "lever", 1), (0, "lever"),
            (0, "lever", row(1, 2), 0), (0, 0, row(1, 2)), (0, None, row(1, 2)), (0, ["lever"], row(1, 2)),
            (True, "lever", row(1, 2)), (0, ("lever",), row(1, 2)), ("0", "lever", row(1, 2)), (0, "lever", None),
        ) + tuple((0, "lever", ((1, 1), part)) for part in NO_FRACTIONS):
            self.assertIs(asked(self, is_offer, MIXED, thing), False, thing)
        self.assertIs(asked(self, is_offer, LONE, (0, "lever", row(1))), False)

    def test_with_offers(self):
        for die, plant in small_plants(221, 40):
            offers = some_offers(die, plant, 6)
            found = asked(self, with_offers, plant, offers)
            self.assertIs(is_plant(found), True)
            self.assertEqual(found, own_with(plant, offers))
        self.assertEqual(asked(self, with_offers, LONE, ()), LONE)
        refused(self, NoHand, {"hand": 2}, with_offers, SPLIT, (SPLIT_OFFERS[0], (2, "lever", row(1)), (-1, "gauge", row(1))))
        refused(self, NoHand, {"hand": 0}, with_offers, LONE, ((0, "lever", row(1)),))

    def test_with_talks(self):
        for _, plant in small_plants(222, 30):
            for talks in ((), tuple(talks_of(plant))) + tuple((talk,) for talk in talks_of(plant)):
                found = asked(self, with_talks, plant, talks)
                self.assertEqual(found, own_talked(plant, talks))
                self.assertEqual([levers for levers, _ in found[1]], [levers for levers, _ in plant[1]])
        # Not what a hand is told itself.
        chain = (table((1,)), tuple(((), table((much,))) for much in (2, 3, 5)))
        self.assertEqual(
            asked(self, with_talks, chain, ((0, 1), (1, 2)))[1], (((), table((2,))), ((), table((3,), (2,))), ((), table((5,), (3,))))
        )
        self.assertEqual(
            asked(self, with_talks, chain, ((0, 2), (1, 2), (2, 0)))[1],
            (((), table((2,), (5,))), ((), table((3,))), ((), table((5,), (2,), (3,)))),
        )
        self.assertEqual(sizes(with_talks(MIXED, ((0, 1), (2, 1)))), ((2, 1), (1, 3), (0, 2), (0, 0)))

    def test_talks_are_refused(self):
        refused(self, NoHand, {"hand": 2}, with_talks, SPLIT, ((0, 2),))
        refused(self, NoHand, {"hand": -1}, with_talks, SPLIT, ((-1, 0), (0, 3)))
        refused(self, NoHand, {"hand": 3}, with_talks, SPLIT, ((0, 0), (0, 3)))
        refused(self, NoHand, {"hand": 2}, with_talks, SPLIT, ((2, 3),))
        refused(self, NoHand, {"hand": 2}, with_talks, SPLIT, ((2, 2),))
        refused(self, Unfit, {}, with_talks, SPLIT, ((0, 0),))
        refused(self, Unfit, {}, with_talks, SPLIT, ((0, 1), (1, 1)))
        refused(self, NoHand, {"hand": 0}, with_talks, LONE, ((0, 0),))


class Needless(unittest.TestCase):
    def test_by_all_rules(self):
        kinds = set()
        for _, plant in small_plants(223, 60, entries=5):
            for tone in TONES[:5] + TONES[6:8]:
                if not own_free(plant, tone):
                    refused(self, Unfit, {}, needless, plant, tone)
                    continue
                told = tuple(
                    wire for wire in wires(plant) if own_free(without_wire(plant, wire), tone)
                )
                self.assertEqual(needless(plant, tone), told)
                kinds.add((len(told), len(wires(plant))))
        self.assertGreater(len(kinds), 12)

    def test_edges(self):
        full = with_offers(SPLIT, SPLIT_OFFERS)
        self.assertEqual(asked(self, needless, full, rooted(1)), wires(full))
        self.assertEqual(asked(self, needless, with_offers(SPLIT, SPLIT_OFFERS[:1]), rooted(1)), ((1, "gauge", 0),))
        self.assertEqual(asked(self, needless, LONE, rooted(3)), ())
        self.assertEqual(asked(self, needless, SPLIT, rooted(3)), wires(SPLIT))
        refused(self, Unfit, {}, needless, SPLIT, rooted(1))
        refused(self, Unfit, {}, needless, SPLIT, rooted(1, 2))
        refused(self, Unfit, {}, needless, LONE, rooted(2))


class Bars(unittest.TestCase):
    def test_by_all_rules(self):
        barred = set()
        for die, plant in rooms(224, 80):
            offers = some_offers(die, plant, 2)
            every = talks_of(plant)
            talks = tuple(sorted(die.sample(every, die.randint(0, min(2, len(every))))))
            later = own_talked(own_with(plant, offers), talks)
            for tone in TONES[:3] + TONES[6:7]:
                lots = [lot for lot in lots_of(plant) if have_common(own_divisor(later, lot), numbers(tone))]
                if entries(later) <= 6:
                    self.assertEqual(not lots, own_free(later, tone))
                found = asked(self, bar, plant, offers, talks, tone)
                self.assertEqual(found is None, not lots)
                for lot in lots_of(plant):
                    self.assertIs(is_bar(plant, offers, talks, tone, lot), lot in lots)
                if found is not None:
                    self.assertIn(found, lots)
                    barred.add((found, len(offers), len(talks)))
        self.assertGreater(len(barred), 15)

    def test_more_frees(self):
        for die, plant in small_plants(225, 30, most=1, entries=3):
            offers = some_offers(die, plant, 3)
            for tone in TONES[:3]:
                if bar(plant, (), (), tone) is None:
                    self.assertIsNone(bar(plant, offers, tuple(talks_of(plant)), tone))
                # With all talks what is barred is so by no hand or by all hands.
                if bar(plant, offers, tuple(talks_of(plant)), tone) is not None:
                    ends = ((), tuple(range(len(plant[1]))))
                    self.assertTrue(any(is_bar(plant, offers, tuple(talks_of(plant)), tone, lot) for lot in ends))

    def test_which_partings_change(self):
        for die, plant in small_plants(226, 25, most_hands=3, most=1, entries=3):
            for hand, word, line in some_offers(die, plant, 3):
                later = with_offers(plant, ((hand, word, line),))
                for lot in lots_of(plant):
                    if (hand in lot) != (word == "lever"):
                        self.assertEqual(parting_divisor(later, lot), parting_divisor(plant, lot))
            for talk in talks_of(plant):
                later = with_talks(plant, (talk,))
                for lot in lots_of(plant):
                    if talk[0] not in lot or talk[1] in lot:
                        self.assertEqual(parting_divisor(later, lot), parting_divisor(plant, lot))

    def test_edges(self):
        self.assertEqual(asked(self, bar, SPLIT, (), (), rooted(1)), (1,))
        self.assertIsNone(asked(self, bar, SPLIT, SPLIT_OFFERS[:1], (), rooted(1)))
        self.assertIsNone(asked(self, bar, SPLIT, (), ((1, 0),), rooted(1)))
        self.assertEqual(asked(self, bar, SPLIT, (), ((0, 1),), rooted(1)), (1,))
        self.assertEqual(asked(self, bar, LONE, (), (), rooted(2)), ())
        self.assertEqual(asked(self, bar, RING, (), (), rooted(0)), (0,))
        # A TALK tells the gauges that are offered, too.
        blind = (table((1,)), ((table((1,)), ()), ((), ())))
        self.assertIsNotNone(asked(self, bar, blind, (), ((1, 0),), rooted(1)))
        self.assertIsNone(asked(self, bar, blind, ((1, "gauge", row(1)),), ((1, 0),), rooted(1)))
        is_none_spoiled(self, is_bar, SPLIT, (), (), rooted(1), (1,))
        for thing in OTHER_THINGS + ((), (0,), (0, 1), (1, 1), (2,), (-1,), (1, 0), ((1,),), [1], (True,)):
            self.assertIs(asked(self, is_bar, SPLIT, (), (), rooted(1), thing), False, thing)
        self.assertIs(asked(self, is_bar, LONE, (), (), rooted(2, 3), ()), True)

    def test_errors_in_order(self):
        wrong, same = ((0, "lever", row(1)), (5, "lever", row(1)), (6, "gauge", row(1))), ((0, 0), (1, 7))
        refused(self, NoHand, {"hand": 5}, bar, SPLIT, wrong, same, rooted(1))
        refused(self, NoHand, {"hand": 7}, bar, SPLIT, SPLIT_OFFERS, same, rooted(1))
        refused(self, Unfit, {}, bar, SPLIT, SPLIT_OFFERS, same[:1], rooted(1))
        for thing in ((1,), None):
            refused(self, NoHand, {"hand": 5}, is_bar, SPLIT, wrong, same, rooted(1), thing)
            refused(self, NoHand, {"hand": 7}, is_bar, SPLIT, SPLIT_OFFERS, same, rooted(1), thing)
            refused(self, Unfit, {}, is_bar, SPLIT, SPLIT_OFFERS, same[:1], rooted(1), thing)
        refused(self, NoHand, {"hand": 5}, fewest_offers, SPLIT, wrong, rooted(1))
        refused(self, NoHand, {"hand": 5}, cheapest_offers, SPLIT, wrong, (), rooted(1))


class Fewest(unittest.TestCase):
    def test_offers(self):
        kinds = set()
        for die, plant in rooms(227, 120):
            offers = some_offers(die, plant, 4)
            if entries(own_with(plant, offers)) > 6:
                continue
            prices = tuple(die.randint(0, 3) for _ in offers)
            for tone in TONES[:3]:
                free = [
                    some for some in sets_of(range(len(offers)))
                    if own_free(own_with(plant, [offers[place] for place in some]), tone)
                ]
                if not free:
                    refused(self, NoPaper, {}, fewest_offers, plant, offers, tone)
                    refused(self, NoPaper, {}, cheapest_offers, plant, offers, prices, tone)
                    kinds.add(None)
                    continue
                self.assertEqual(asked(self, fewest_offers, plant, offers, tone), free[0])
                told = min((sum(prices[place] for place in some), len(some), some) for some in free)
                self.assertEqual(asked(self, cheapest_offers, plant, offers, prices, tone), (told[0], told[2]))
                kinds.add((free[0], told[2]))
        self.assertGreater(len(kinds), 8)

    def test_six_offers(self):
        offers = (
            (1, "gauge", row(0, 1, 0)), (2, "lever", row(0, 0, 1)), (0, "lever", row(0, 1, 1)), (0, "gauge", row(0, 0, 1)),
            (1, "lever", row(0, 0, 1)), (2, "gauge", row(1, 1, 0)),
        )
        frees = [
            some for some in sets_of(range(6))
            if not any(
                own_rank_at(own_with(ROOMS, [offers[place] for place in some]), lot, 1) < 3 for lot in lots_of(ROOMS)
            )
        ]
        self.assertEqual(asked(self, fewest_offers, ROOMS, offers, rooted(1)), frees[0])
        for prices in ((1, 1, 1, 1, 1, 1), (9, 9, 1, 1, 1, 1), (0, 0, 0, 0, 0, 0), (5, 1, 0, 2, 7, 3), (100, 1, 1, 1, 1, 1)):
            told = min((sum(prices[place] for place in some), len(some), some) for some in frees)
            self.assertEqual(asked(self, cheapest_offers, ROOMS, offers, prices, rooted(1)), (told[0], told[2]))
        self.assertGreater(len(frees[0]), 1)

    def test_edges(self):
        self.assertEqual(asked(self, fewest_offers, SPLIT, SPLIT_OFFERS, rooted(1)), (0,))
        self.assertEqual(asked(self, fewest_offers, SPLIT, SPLIT_OFFERS, rooted(2)), ())
        self.assertEqual(asked(self, fewest_offers, SPLIT, (), rooted(2)), ())
        self.assertEqual(asked(self, cheapest_offers, SPLIT, SPLIT_OFFERS, (5, 3), rooted(1)), (3, (1,)))
        self.assertEqual(asked(self, cheapest_offers, SPLIT, SPLIT_OFFERS, (3, 3), rooted(1)), (3, (0,)))
        self.assertEqual(asked(self, cheapest_offers, SPLIT, SPLIT_OFFERS, (0, 0), rooted(2)), (0, ()))
        self.assertEqual(asked(self, cheapest_offers, SPLIT, SPLIT_OFFERS, (10 ** 30, 10 ** 30 + 1), rooted(1)), (10 ** 30, (0,)))
        self.assertEqual(asked(self, cheapest_offers, LONE, (), (), rooted(3)), (0, ()))
        refused(self, NoPaper, {}, fewest_offers, SPLIT, (), rooted(1))
        refused(self, NoPaper, {}, fewest_offers, LONE, (), rooted(2))
        refused(self, NoPaper, {}, fewest_offers, SPLIT, ((0, "gauge", row(0)), (0, "lever", row(1))), rooted(1))
        refused(self, NoPaper, {}, cheapest_offers, SPLIT, (), (), rooted(1))
        for prices in ((), (1,), (1, 2, 3)):
            refused(self, Unfit, {}, cheapest_offers, SPLIT, SPLIT_OFFERS, prices, rooted(1))
        # Ahead of what is not free with all of them.
        refused(self, Unfit, {}, cheapest_offers, SPLIT, (), (1,), rooted(1))

    def test_talks(self):
        kinds = set()
        for _, plant in rooms(228, 60):
            if entries(own_talked(plant, talks_of(plant))) > 6:
                continue
            for tone in TONES[:3]:
                free = [some for some in sets_of(talks_of(plant)) if own_free(own_talked(plant, some), tone)]
                if free:
                    self.assertEqual(asked(self, fewest_talks, plant, tone), free[0])
                    kinds.add(free[0])
                else:
                    refused(self, NoPaper, {}, fewest_talks, plant, tone)
                    kinds.add(None)
        self.assertGreater(len(kinds), 4)

    def test_talks_at_the_edges(self):
        self.assertEqual(asked(self, fewest_talks, SPLIT, rooted(1)), ((1, 0),))
        self.assertEqual(asked(self, fewest_talks, SPLIT, rooted(2)), ())
        self.assertEqual(asked(self, fewest_talks, LONE, rooted(3)), ())
        refused(self, NoPaper, {}, fewest_talks, LONE, rooted(2))
        refused(self, NoPaper, {}, fewest_talks, ROOMS, rooted(1))
        # Two hands that see must both be heard by the one that moves.
        two = (
            table((1, 0), (0, 2)),
            (((), table((1, 0))), (table((1, 0), (0, 1)), ()), ((), table((0, 1)))),
        )
        self.assertEqual(asked(self, fewest_talks, two, rooted(1, 2)), ((0, 1), (2, 1)))
        self.assertEqual(asked(self, fewest_talks, two, rooted(2)), ((2, 1),))

    def test_great_numbers(self):
        die = dice(229)
        rows, start = great_table(die, 4, 4), great_row(die, 4)
        plant = (rows, (((start,), ()), ((), great_table(die, 2, 4)), ((), ())))
        tone = poly(2, 1)
        self.assertEqual(asked(self, fewest_talks, plant, tone), ())
        apart = (table((Fraction(10 ** 40, 999983),)), ((table((Fraction(1, 10 ** 6),)), ()), ((), table((10 ** 40,)))))
        own = rooted(Fraction(10 ** 40, 999983))
        self.assertEqual(asked(self, fewest_talks, apart, own), ((1, 0),))
        self.assertEqual(asked(self, fewest_offers, apart, ((0, "gauge", row(0)), (1, "lever", row(Fraction(1, 7)))), own), (1,))


if __name__ == "__main__":
    unittest.main()

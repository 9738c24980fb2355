"""What hands can learn [12]."""

import unittest
from fractions import Fraction
from itertools import combinations, permutations, product as all_of

from handsunread.errors import NoHand, NoWire
from handsunread.learn import (
    cut, fewest_cut, fewest_deaf, heard_by, hears, hiding, is_cut, is_hiding, is_knowing, is_most_trails, is_trail,
    knowing, most_trails, open_sums, own_sums, silent,
)
from handsunread.plants import is_plant, sizes, wire_row, wires
from handsunread.plays import seen, ticked
from handsunread.spaces import is_space
from handsunread.sure import is_sure
from tests.own import (
    OTHER_THINGS, asked, chain_plant, dice, great_row, great_table, number, number_rows, numbers, own_delays, own_in,
    own_reach, own_run, own_shown, own_within, refused, relay, row, some_plant, some_row, some_rules, spoiled,
    table, thin_plant, thin_row, unit_rows,
)
from tests.test_plants import LONE, MIXED

STILL = table((1, 0, 0), (0, 1, 0), (0, 0, 1))
# The example of the document: hands 0 and 2 can put what they saw into cell 2, in turn, where hand 1 sees it.
SHOP = (
    STILL,
    ((table((0, 0, 1)), table((1, 1, 0))), ((), table((0, 0, 1))), (table((0, 0, 2)), table((0, 1, 0)))),
)
SECOND, THIRD = row(0, 1, 0), row(0, 0, 1)
# A hand with two of each kind, so that two TRAILS go through it, and one that ties both.
WIDE = (
    table((0, 0, 0), (0, 0, 0), (0, 0, 0)),
    (
        (table((0, 1, 0), (0, 0, 1)), table((1, 0, 0), (2, 0, 0))),
        (table((0, 0, 1)), table((0, 1, 0))),
    ),
)


def plants_of(seed, many, most_cells=3, most_hands=3, most=2):
    die = dice(seed)
    for _ in range(many):
        cells, hands = die.randint(1, most_cells), die.randint(0, most_hands)
        make = die.choice((thin_plant, chain_plant, some_plant, None))
        if make is None:
            plant, start, reading = relay(die, most_cells, min(most_cells - 1, most_hands))
        else:
            plant = make(die, cells, hands, most=die.randint(1, most))
            start, reading = unit_rows(die, 1, cells)[0], thin_row(die, cells, 2)
        yield die, plant, start, reading


def own_hears(plant):
    """The pairs (hearer, teller), by all chains of hands."""
    none = row(*[0] * len(plant[0]))
    between, hands = own_reach(plant, none, none)[1], range(len(plant[1]))
    return {
        (chain[-1], chain[0]) for many in range(2, len(plant[1]) + 2) for chain in all_of(hands, repeat=many)
        if all(between[one][other] for one, other in zip(chain, chain[1:]))
    }


def own_sees(plant, cells, doings):
    """What each hand sees before each tick, doings telling the moves of all from the tick and what is seen."""
    found = []
    for tick in range(8):
        shows = seen(plant, cells)
        found.append(shows)
        cells = ticked(plant, cells, doings(tick, shows))
    return found


def ruled(rule, show):
    return row(*[own_shown(numbers(line), numbers(show)) for line in rule])


class Hears(unittest.TestCase):
    def test_by_all_chains(self):
        kinds = set()
        for _, plant, _, _ in plants_of(130, 60, most_cells=4, most_hands=4):
            pairs, hands = own_hears(plant), range(len(plant[1]))
            for hand in hands:
                told = tuple(other for other in hands if (hand, other) in pairs)
                self.assertEqual(asked(self, hears, plant, hand), told)
                self.assertEqual(
                    asked(self, heard_by, plant, hand), tuple(other for other in hands if (other, hand) in pairs)
                )
                kinds.add((told, hand in told))
        self.assertGreater(len(kinds), 10)

    def test_what_other_does_instead(self):
        # All but one do as ever; that one does something else: who does not hear it sees the same.
        found = [0, 0]
        for die, plant, _, _ in plants_of(131, 60):
            for other in range(len(plant[1])):
                clock = [some_rules(die, plant) for _ in range(8)]
                instead = [some_row(die, len(plant[1][other][0]), low=1, high=9) for _ in range(8)]
                cells = some_row(die, len(plant[0]))
                told = own_sees(plant, cells, lambda tick, shows: tuple(map(ruled, clock[tick], shows)))
                changed = own_sees(plant, cells, lambda tick, shows: tuple(
                    instead[tick] if hand == other else ruled(clock[tick][hand], shows[hand])
                    for hand in range(len(plant[1]))
                ))
                for hand in range(len(plant[1])):
                    same = [shows[hand] for shows in told] == [shows[hand] for shows in changed]
                    if other not in hears(plant, hand):
                        self.assertTrue(same)
                    found[same] += 1
        self.assertGreater(min(found), 20)

    def test_what_is_moved_once(self):
        # What a lever gives once is a DIFFERENCE: it is seen at once, or it is not sure that it is never seen.
        found = [0, 0]
        for _, plant, _, _ in plants_of(132, 50):
            for other, (_, gauges) in enumerate(plant[1]):
                for hand, (levers, _) in enumerate(plant[1]):
                    told = any(
                        own_delays(plant, [numbers(lever)], [numbers(gauge)]) or not is_sure(plant, lever, gauge)
                        for lever in levers for gauge in gauges
                    )
                    self.assertIs(hand in hears(plant, other), told)
                    found[told] += 1
        self.assertGreater(min(found), 20)

    def test_edges(self):
        self.assertEqual([asked(self, hears, MIXED, hand) for hand in range(4)], [(0, 1), (), (0, 1), ()])
        self.assertEqual([asked(self, heard_by, MIXED, hand) for hand in range(4)], [(0, 2), (0, 2), (), ()])
        self.assertEqual(hears(SHOP, 1), (0, 2))
        for function in (hears, heard_by, own_sums, open_sums, silent):
            for hand in (4, -1, -4, 10 ** 20):
                refused(self, NoHand, {"hand": hand}, function, MIXED, hand)
            refused(self, NoHand, {"hand": 0}, function, LONE, 0)


def own_shows(plant, hands):
    """Of all gauges of these hands, before each tick below the number of cells, the row that is shown."""
    units = [[Fraction(place == at) for place in range(len(plant[0]))] for at in range(len(plant[0]))]
    runs = [own_run(plant, unit, len(plant[0])) for unit in units]
    return {
        (hand, number, tick): [own_shown(numbers(gauge), run[tick]) for run in runs]
        for hand in hands for number, gauge in enumerate(plant[1][hand][1]) for tick in range(len(plant[0]))
    }


class Sums(unittest.TestCase):
    def test_spaces(self):
        kinds = set()
        for _, plant, _, _ in plants_of(133, 60):
            pairs, long = own_hears(plant), len(plant[0])
            for hand in range(len(plant[1])):
                own, all_open = asked(self, own_sums, plant, hand), asked(self, open_sums, plant, hand)
                hidden = asked(self, silent, plant, hand)
                known = [other for other in range(len(plant[1])) if other == hand or (hand, other) in pairs]
                for space, hands in ((own, [hand]), (all_open, known)):
                    rows = list(own_shows(plant, hands).values())
                    self.assertTrue(is_space(space, long))
                    self.assertTrue(own_within(rows, number_rows(space)) and own_within(number_rows(space), rows))
                self.assertTrue(is_space(hidden, long))
                self.assertEqual(len(hidden) + len(all_open), long)
                self.assertFalse(any(
                    own_shown(one, other) for one in number_rows(hidden) for other in number_rows(all_open)
                ))
                kinds.add((len(own), len(all_open), long))
        self.assertGreater(len(kinds), 8)

    def test_silent_is_never_seen(self):
        found = 0
        for die, plant, _, _ in plants_of(134, 60):
            for hand in range(len(plant[1])):
                for start in silent(plant, hand):
                    clock = [some_rules(die, plant) for _ in range(8)]
                    cells = some_row(die, len(plant[0]))
                    more = row(*[one + 3 * other for one, other in zip(numbers(cells), numbers(start))])
                    doings = lambda tick, shows: tuple(map(ruled, clock[tick], shows))
                    one, other = own_sees(plant, cells, doings), own_sees(plant, more, doings)
                    self.assertEqual([shows[hand] for shows in one], [shows[hand] for shows in other])
                    found += 1
        self.assertGreater(found, 20)

    def test_edges(self):
        self.assertEqual(asked(self, own_sums, MIXED, 1), ())
        self.assertEqual(asked(self, open_sums, MIXED, 1), ())
        self.assertEqual(asked(self, silent, MIXED, 1), table((1, 0), (0, 1)))
        self.assertEqual(asked(self, silent, MIXED, 3), table((1, 0), (0, 1)))
        self.assertEqual(asked(self, own_sums, MIXED, 2), table((1, 0), (0, 1)))
        self.assertEqual(asked(self, silent, MIXED, 2), ())
        self.assertEqual(asked(self, own_sums, MIXED, 0), table((0, 1)))


class Knowing(unittest.TestCase):
    def test_knowing_or_hiding(self):
        found, longs = [0, 0], set()
        for die, plant, _, reading in plants_of(135, 60):
            pairs = own_hears(plant)
            for hand in range(len(plant[1])):
                known = [other for other in range(len(plant[1])) if other == hand or (hand, other) in pairs]
                told = own_shows(plant, known)
                thing, hidden = asked(self, knowing, plant, hand, reading), asked(self, hiding, plant, hand, reading)
                can = own_in(list(told.values()), numbers(reading)) if told else not any(numbers(reading))
                self.assertEqual((thing is not None, hidden is None), (can, can))
                if can:
                    self.assertIs(asked(self, is_knowing, plant, hand, reading, thing), True)
                    self.own_check(told, reading, thing)
                    longs.add(len(thing))
                else:
                    self.assertIs(asked(self, is_hiding, plant, hand, reading, hidden), True)
                    self.assertEqual(own_shown(numbers(hidden), numbers(reading)), 1)
                    self.assertFalse(any(own_shown(numbers(hidden), one) for one in told.values()))
                found[can] += 1
        self.assertGreater(min(found), 15)
        self.assertGreaterEqual(len(longs), 3)

    def own_check(self, told, reading, thing):
        self.assertEqual([part[:3] for part in thing], sorted({part[:3] for part in thing}))
        total = [Fraction(0)] * len(reading)
        for hand, gauge, tick, much in thing:
            self.assertNotEqual(number(much), 0)
            total = [one + number(much) * other for one, other in zip(total, told[(hand, gauge, tick)])]
        self.assertEqual(row(*total), reading)

    def test_edges(self):
        for hand in range(4):
            self.assertEqual(asked(self, knowing, MIXED, hand, row(0, 0)), ())
            self.assertIs(asked(self, hiding, MIXED, hand, row(0, 0)), None)
            self.assertIs(asked(self, is_knowing, MIXED, hand, row(0, 0), ()), True)
            self.assertIs(is_knowing(MIXED, hand, row(1, 0), ()), False)
            self.assertIs(is_hiding(MIXED, hand, row(0, 0), row(0, 0)), False)
            self.assertIs(is_hiding(MIXED, hand, row(0, 0), row(1, 0)), False)
        self.assertIs(asked(self, knowing, MIXED, 1, row(1, 0)), None)
        self.assertIs(asked(self, is_hiding, MIXED, 1, row(2, 0), row(Fraction(1, 2), 7)), True)
        self.assertIs(asked(self, is_hiding, MIXED, 3, row(0, 1), row(-5, 1)), True)
        for function, arguments in (
            (knowing, (row(1, 0),)), (hiding, (row(1, 0),)), (is_knowing, (row(1, 0), ())), (is_knowing, (row(1, 0), None)),
            (is_hiding, (row(1, 0), row(1, 0))), (is_hiding, (row(1, 0), "no row")),
        ):
            for hand in (4, -1, 10 ** 20):
                refused(self, NoHand, {"hand": hand}, function, MIXED, hand, *arguments)
            refused(self, NoHand, {"hand": 0}, function, LONE, 0, *[row(1)] * len(arguments))

    def test_is_knowing(self):
        first = row(1, 0, 0)
        thing = ((0, 0, 0, (1, 1)), (2, 0, 0, (-1, 1)))
        self.assertIs(asked(self, is_knowing, SHOP, 1, first, thing), True)
        self.assertIs(is_knowing(SHOP, 1, first, ((0, 0, 2, (1, 1)), (2, 0, 1, (-1, 1)))), True)
        three = ((0, 0, 0, (3, 2)), (0, 0, 1, (-1, 2)), (2, 0, 0, (-1, 1)))
        self.assertIs(asked(self, is_knowing, SHOP, 1, first, three), True)
        for other in spoiled(thing) + [
            thing[::-1], thing[:1], thing + ((2, 0, 1, (1, 1)),), ((0, 0, 0, (1, 1)), (2, 0, 0, (-2, 1))),
            ((0, 0, 0, (1, 1)), (1, 0, 0, (0, 1)), (2, 0, 0, (-1, 1))), ((0, 0, 3, (1, 1)), (2, 0, 0, (-1, 1))),
            ((0, 0, -1, (1, 1)), (2, 0, 0, (-1, 1))), ((0, 1, 0, (1, 1)), (2, 0, 0, (-1, 1))),
            ((0, -1, 0, (1, 1)), (2, 0, 0, (-1, 1))), ((0, 0, 0, (1, 1)), (-1, 0, 0, (-1, 1))),
            ((0, 0, 0, (1, 2)), (0, 0, 0, (1, 2)), (2, 0, 0, (-1, 1))), ((0, 0, 0, (2, 1)), (0, 0, 0, (-1, 1)), thing[1]),
            ((0, 0, 0, (-1, 1)), (0, 0, 0, (2, 1)), thing[1]), ((0, 0, 0), thing[1]), ((0, 0), thing[1]), ((), thing[1]),
            (thing[0] + ((1, 1),), thing[1]), (thing[0] + (0,), thing[1]),
            ((0, 0, 0, (1, 1)), (2, 0, 0, (-1, 2)), (2, 0, 0, (-1, 2))), thing[0], (),
            ((0, 0, 0, 1), (2, 0, 0, -1)), ((0, 0, (1, 1)), (2, 0, (-1, 1))), ((False, 0, 0, (1, 1)), thing[1]),
        ] + list(OTHER_THINGS):
            self.assertIs(is_knowing(SHOP, 1, first, other), False, other)
        # Hand 0 hears of no other hand.
        self.assertIs(is_knowing(SHOP, 0, first, thing), False)
        self.assertIs(is_knowing(SHOP, 0, row(1, 1, 0), ((0, 0, 2, (1, 1)),)), True)

    def test_is_hiding(self):
        first, thing = row(1, 0, 0), row(1, -1, 5)
        self.assertIs(asked(self, is_hiding, SHOP, 0, first, thing), True)
        self.assertIs(asked(self, is_hiding, SHOP, 0, row(Fraction(1, 3), 0, 0), row(3, -3, 0)), True)
        for other in spoiled(thing) + [
            row(1, 1, 5), row(2, -2, 5), row(0, 0, 1), row(1, -1), row(1, -1, 5, 0), row(-1, 1, 0), (),
        ] + list(OTHER_THINGS):
            self.assertIs(is_hiding(SHOP, 0, first, other), False, other)
        self.assertIs(is_hiding(SHOP, 1, first, thing), False)

    def test_great_numbers(self):
        die = dice(136)
        plant = (great_table(die, 4, 4), ((great_table(die, 1, 4), great_table(die, 1, 4)),) * 2)
        reading = great_row(die, 4)
        thing = asked(self, knowing, plant, 1, reading)
        self.assertIs(asked(self, is_knowing, plant, 1, reading, thing), True)
        self.assertIs(is_knowing(plant, 1, reading, thing[:-1]), False)


def own_trails(plant, start, reading):
    """All TRAILS, by all rows of WIRES that go through each hand's gauge and lever."""
    pairs = [
        ((hand, "gauge", gauge), (hand, "lever", lever)) for hand, (levers, gauges) in enumerate(plant[1])
        for gauge in range(len(gauges)) for lever in range(len(levers))
    ]
    found = []
    for many in range(1, len(pairs) + 1):
        for chosen in permutations(pairs, many):
            rows = [[numbers(wire_row(plant, wire)) for wire in both] for both in chosen]
            trail = tuple(wire for both in chosen for wire in both)
            if len(set(trail)) < len(trail) or not own_delays(plant, [numbers(start)], [rows[0][0]]):
                continue
            if not own_delays(plant, [rows[-1][1]], [numbers(reading)]):
                continue
            if all(own_delays(plant, [one[1]], [other[0]]) for one, other in zip(rows, rows[1:])):
                found.append(trail)
    return found


def most_apart(trails):
    """The most of these without a common WIRE, by all sets of them."""
    best = 0
    for at, trail in enumerate(trails):
        best = max(best, 1 + most_apart([other for other in trails[at + 1:] if not set(other) & set(trail)]))
    return best


def own_least(plant, holds):
    """The least set of WIRES with which cut it holds, by all sets of them, with the fewest first."""
    for many in range(len(wires(plant)) + 1):
        for chosen in combinations(wires(plant), many):
            if holds(cut(plant, chosen)):
                return chosen
    return None


class Cut(unittest.TestCase):
    def test_cut(self):
        for die, plant, _, _ in plants_of(137, 40):
            chosen = tuple(wire for wire in wires(plant) if die.randint(0, 1))
            found = asked(self, cut, plant, chosen)
            self.assertTrue(is_plant(found))
            self.assertEqual((found[0], sizes(found)), (plant[0], sizes(plant)))
            for wire in wires(plant):
                told = row(*[0] * len(plant[0])) if wire in chosen else wire_row(plant, wire)
                self.assertEqual(wire_row(found, wire), told)
            self.assertEqual(cut(plant, chosen[::-1]), found)
        self.assertEqual(asked(self, cut, MIXED, ()), MIXED)
        self.assertEqual(asked(self, cut, LONE, ()), LONE)

    def test_errors(self):
        refused(self, NoHand, {"hand": 0}, cut, LONE, ((0, "lever", 0),))
        for bad, wire in (
            (NoWire, (1, "gauge", 0)), (NoWire, (0, "lever", 2)), (NoWire, (0, "gauge", -1)), (NoWire, (3, "lever", 0)),
        ):
            refused(self, bad, {"wire": wire}, cut, MIXED, (wire,))
            refused(self, bad, {"wire": wire}, cut, MIXED, ((0, "lever", 1), wire, (9, "lever", 0)))
        for hand in (4, -1, 10 ** 20):
            refused(self, NoHand, {"hand": hand}, cut, MIXED, ((hand, "lever", 0), (1, "gauge", 0)))
            refused(self, NoWire, {"wire": (1, "gauge", 0)}, cut, MIXED, ((1, "gauge", 0), (hand, "lever", 0)))
            refused(self, NoHand, {"hand": hand}, fewest_deaf, MIXED, hand, 0)
            refused(self, NoHand, {"hand": hand}, fewest_deaf, MIXED, 0, hand)
            refused(self, NoHand, {"hand": hand}, fewest_deaf, MIXED, hand, -9)
        refused(self, NoHand, {"hand": 0}, fewest_deaf, LONE, 0, 0)

    def test_fewest_by_all_sets(self):
        kinds = set()
        for _, plant, start, reading in plants_of(138, 70, most_hands=3):
            if len(wires(plant)) > 8:
                continue
            told = own_least(plant, lambda left: is_sure(left, start, reading))
            found = asked(self, fewest_cut, plant, start, reading)
            self.assertEqual(found, told)
            self.assertIs(asked(self, is_cut, plant, start, reading, found), True)
            trails = asked(self, most_trails, plant, start, reading)
            self.assertIs(asked(self, is_most_trails, plant, start, reading, trails), True)
            self.assertEqual(len(trails), len(found))
            for hand in range(len(plant[1])):
                for other in range(len(plant[1])):
                    told = own_least(plant, lambda left: (hand, other) not in own_hears(left))
                    self.assertEqual(fewest_deaf(plant, hand, other), told)
            kinds.add(found)
        self.assertGreater(len(kinds), 6)

    def test_fewest_deaf(self):
        self.assertEqual(asked(self, fewest_deaf, MIXED, 0, 0), ((0, "gauge", 0),))
        self.assertEqual(asked(self, fewest_deaf, MIXED, 0, 1), ((0, "gauge", 0),))
        self.assertEqual(asked(self, fewest_deaf, MIXED, 1, 0), ())
        self.assertEqual(asked(self, fewest_deaf, MIXED, 3, 3), ())
        self.assertEqual(asked(self, fewest_deaf, MIXED, 2, 1), ((1, "lever", 0),))
        self.assertEqual(asked(self, fewest_deaf, MIXED, 2, 0), ((0, "lever", 0), (0, "lever", 1)))

    def test_is_cut_by_all_sets(self):
        for _, plant, start, reading in plants_of(139, 25, most_hands=2):
            own = wires(plant)
            for many in range(len(own) + 1):
                for chosen in combinations(own, many):
                    told = is_sure(cut(plant, chosen), start, reading)
                    self.assertIs(is_cut(plant, start, reading, chosen), told)

    def test_is_cut(self):
        thing = ((0, "lever", 0), (2, "gauge", 0))
        self.assertIs(asked(self, is_cut, SHOP, SECOND, THIRD, thing), True)
        self.assertIs(is_cut(SHOP, SECOND, THIRD, wires(SHOP)), True)
        for other in spoiled(thing) + [
            thing[::-1], thing[:1], thing[1:], (), thing + thing[1:], thing[:1] + thing, [thing[0], thing[1]],
            ((0, "lever", 0), (1, "lever", 0), (2, "gauge", 0)), ((-3, "lever", 0), (2, "gauge", 0)),
            ((0, "lever", -1), (2, "gauge", 0)), ((0, "lever", 0), (2, "gauge", 1)), ((0, "lever", 0), (3, "gauge", 0)),
            ((0, "lever"), (2, "gauge", 0)), ((0, "wheel", 0), (2, "gauge", 0)), thing[0],
        ] + list(OTHER_THINGS):
            self.assertIs(is_cut(SHOP, SECOND, THIRD, other), False, other)
        self.assertIs(asked(self, is_cut, LONE, row(1), row(1), ()), True)
        self.assertIs(is_cut(SHOP, THIRD, THIRD, ()), True)

    def test_great_numbers(self):
        die = dice(140)
        plant = (great_table(die, 5, 5), tuple((great_table(die, 3, 5), great_table(die, 3, 5)) for _ in range(4)))
        start, reading = great_row(die, 5), great_row(die, 5)
        found = fewest_cut(plant, start, reading)
        self.assertEqual(len(found), 12)
        self.assertIs(is_cut(plant, start, reading, found), True)
        trails = most_trails(plant, start, reading)
        self.assertEqual(len(trails), 12)
        self.assertIs(is_most_trails(plant, start, reading, trails), True)


class Trails(unittest.TestCase):
    def test_by_all_rows_of_wires(self):
        kinds = set()
        for _, plant, start, reading in plants_of(141, 60, most_hands=3):
            if sum(len(levers) * len(gauges) for levers, gauges in plant[1]) > 5:
                continue
            told = own_trails(plant, start, reading)
            for trail in told:
                self.assertIs(is_trail(plant, start, reading, trail), True)
            own = wires(plant)
            for many in range(5):
                for thing in all_of(own, repeat=many) if len(own) < 7 else ():
                    self.assertIs(is_trail(plant, start, reading, thing), thing in told)
            found = asked(self, most_trails, plant, start, reading)
            self.assertEqual(list(found), sorted(found))
            self.assertTrue(all(trail in told for trail in found))
            self.assertEqual(len({wire for trail in found for wire in trail}), sum(map(len, found)))
            self.assertEqual(len(found), most_apart(told))
            self.all_sets(plant, start, reading, told, len(found))
            kinds.add((len(told), len(found)))
        self.assertGreater(len(kinds), 5)

    def all_sets(self, plant, start, reading, told, most):
        for many in range(min(len(told), 3) + 1):
            for thing in combinations(sorted(told)[:6], many):
                apart = len({wire for trail in thing for wire in trail}) == sum(map(len, thing))
                self.assertIs(is_most_trails(plant, start, reading, thing), apart and many == most)

    def test_is_trail(self):
        first = row(1, 0, 0)
        thing = ((0, "gauge", 1), (0, "lever", 0), (1, "gauge", 0), (1, "lever", 0))
        self.assertIs(asked(self, is_trail, WIDE, first, THIRD, thing), True)
        self.assertIs(is_trail(WIDE, first, THIRD, ((0, "gauge", 0), (0, "lever", 1))), True)
        for other in spoiled(thing) + [
            thing[:1], thing[:2], thing[:3], thing[2:], thing[::-1], thing + thing, thing[1:], (),
            ((0, "gauge", 1), (0, "lever", 1), (1, "gauge", 0), (1, "lever", 0)),
            ((0, "gauge", 1), (1, "lever", 0)), ((1, "gauge", 0), (1, "lever", 0)),
            ((0, "gauge", 0), (0, "gauge", 1), (0, "lever", 0), (1, "gauge", 0), (1, "lever", 0)),
            ((0, "gauge", 2), (0, "lever", 1)), ((-2, "gauge", 0), (0, "lever", 1)), ((0, "gauge", 0), (0, "lever", -1)),
            [thing[0], thing[1]], ((0, "gauge", 0), None), thing[0], ((0, "gauge", 0), (0, "lever", True)),
        ] + list(OTHER_THINGS):
            self.assertIs(is_trail(WIDE, first, THIRD, other), False, other)
        self.assertIs(asked(self, is_trail, LONE, row(1), row(1), ()), False)

    def test_is_most_trails(self):
        first = row(1, 0, 0)
        thing = (
            ((0, "gauge", 0), (0, "lever", 0), (1, "gauge", 0), (1, "lever", 0)),
            ((0, "gauge", 1), (0, "lever", 1)),
        )
        self.assertIs(asked(self, is_most_trails, WIDE, first, THIRD, thing), True)
        self.assertIs(is_most_trails(WIDE, first, THIRD, (((0, "gauge", 0), (0, "lever", 1)), ((0, "gauge", 1),) + thing[0][1:])), True)
        for other in spoiled(thing) + [
            thing[::-1], thing[:1], thing[1:], (), thing + thing[1:], thing[0], (thing[1], thing[1]),
            (((0, "gauge", 0), (0, "lever", 1)), ((0, "gauge", 1), (0, "lever", 1))),
            (((0, "gauge", 0), (0, "lever", 0)), thing[1]), thing + (((1, "gauge", 0), (1, "lever", 0)),), (thing,),
        ] + list(OTHER_THINGS):
            self.assertIs(is_most_trails(WIDE, first, THIRD, other), False, other)
        self.assertIs(asked(self, is_most_trails, LONE, row(1), row(1), ()), True)
        self.assertIs(is_most_trails(WIDE, THIRD, THIRD, ()), True)
        self.assertIs(is_most_trails(WIDE, THIRD, THIRD, ((),)), False)

    def test_a_trail_gives_way_to_two(self):
        # Hand 0 reaches hands 2 and 3, hand 1 reaches 2 alone: the first TRAIL must go by hand 3.
        none = row(0, 0, 0, 0)
        start, last = row(1, 0, 0, 0), row(0, 0, 0, 1)
        plant = ((none,) * 4, (
            ((row(0, 1, 1, 0),), (start,)), ((row(0, 1, 0, 0),), (start,)),
            ((last,), (row(0, 1, 0, 0),)), ((last,), (row(0, 0, 1, 0),)),
        ))
        told = tuple(
            ((one, "gauge", 0), (one, "lever", 0), (other, "gauge", 0), (other, "lever", 0))
            for one, other in ((0, 3), (1, 2))
        )
        self.assertEqual(asked(self, most_trails, plant, start, last), told)
        self.assertEqual(asked(self, fewest_cut, plant, start, last), ((0, "gauge", 0), (1, "gauge", 0)))

    def test_as_many_as_are_cut(self):
        die = dice(142)
        for _ in range(40):
            plant = chain_plant(die, 3, 4, most=2)
            start, reading = unit_rows(die, 1, 3)[0], unit_rows(die, 1, 3)[0]
            found = asked(self, most_trails, plant, start, reading)
            self.assertIs(is_most_trails(plant, start, reading, found), True)
            self.assertEqual(len(fewest_cut(plant, start, reading)), len(found))

    def test_edges(self):
        self.assertEqual(asked(self, most_trails, LONE, row(1), row(1)), ())
        self.assertEqual(asked(self, fewest_cut, LONE, row(1), row(1)), ())
        self.assertEqual(asked(self, most_trails, MIXED, row(0, 0), row(1, 0)), ())
        self.assertEqual(asked(self, most_trails, MIXED, row(0, 1), row(0, 0)), ())
        self.assertEqual(asked(self, fewest_cut, MIXED, row(0, 1), row(0, 0)), ())


if __name__ == "__main__":
    unittest.main()

"""Ways over hands [10]."""

import unittest
from fractions import Fraction
from itertools import product as all_of

from handsunread.errors import NoHand, Unfit
from handsunread.plays import played
from handsunread.ways import (
    all_ways, first_reached, hand_delays, is_way, links, reached, reaching, reading_delays, soonest, start_delays, stops,
    ticks, way,
)
from tests.own import (
    OTHER_THINGS, asked, chain_plant, dice, great_row, great_table, number, number_rows, numbers, own_delays, own_is_way,
    own_reach, own_run, own_shown, own_ticks, own_ways, refused, relay, row, some_plant, some_row, some_rules, table,
    thin_plant, thin_row, unit_rows,
)
from tests.test_plants import LONE, MIXED

# The example of the document: what is in cell 0 goes to 1, 2, 3, and is gone.
LINE = (
    table((0, 0, 0, 0), (1, 0, 0, 0), (0, 1, 0, 0), (0, 0, 1, 0)),
    (
        (table((0, 0, 1, 0)), table((1, 0, 0, 0))),
        (table((1, 0, 0, 0)), table((0, 0, 0, 1))),
        ((), table((1, 0, 0, -1))),
    ),
)
FIRST = row(1, 0, 0, 0)
# Levers and gauges of which two together show 0: cell 0 less cell 1, both moved alike.
CANCELLING = (
    table((1, 0), (0, 1)),
    ((table((1, 1)), table((1, -1))), (table((1, 0)), table((0, 1))), ((), ()), (table((0, 0)), table((0, 0)))),
)


def plants_of(seed, many, most_cells=4, most_hands=4, most=2):
    die = dice(seed)
    for _ in range(many):
        cells, hands = die.randint(1, most_cells), die.randint(0, most_hands)
        make = die.choice((thin_plant, thin_plant, chain_plant, some_plant, None))
        if make is None:
            plant, start, reading = relay(die, most_cells, min(most_cells - 1, most_hands))
        else:
            plant = make(die, cells, hands, most=die.randint(1, most))
            start, reading = unit_rows(die, 1, cells)[0], thin_row(die, cells, 2)
        yield die, plant, start, reading


def acts_clock(plant, acts, much=1):
    """The CLOCK in which the quadruples (hand, lever, gauge, tick) come, and nothing else."""
    many = max([act[3] + 1 for act in acts] or [0])
    return tuple(
        tuple(
            tuple(
                tuple((much, 1) if (hand, lever, gauge, tick) in acts else (0, 1) for gauge in range(len(gauges)))
                for lever in range(len(levers))
            )
            for hand, (levers, gauges) in enumerate(plant[1])
        )
        for tick in range(many)
    )


def shown_more(plant, cells, start, reading, clock, many):
    """What the READING shows more, before each tick, in the play from cells and start than in that from cells."""
    more = row(*[one + other for one, other in zip(numbers(cells), numbers(start))])
    lesser, greater = played(plant, cells, clock, many)[0], played(plant, more, clock, many)[0]
    read = numbers(reading)
    return [own_shown(read, numbers(two)) - own_shown(read, numbers(one)) for one, two in zip(lesser, greater)]


class Delays(unittest.TestCase):
    def test_by_powers(self):
        seen = set()
        for _, plant, start, reading in plants_of(100, 60):
            first, between, last = own_reach(plant, start, reading)
            for hand in range(len(plant[1])):
                self.assertEqual(asked(self, start_delays, plant, start, hand), first[hand])
                self.assertEqual(asked(self, reading_delays, plant, hand, reading), last[hand])
                for other in range(len(plant[1])):
                    found = asked(self, hand_delays, plant, hand, other)
                    self.assertEqual(found, between[hand][other])
                    seen.add(found)
        self.assertGreater(len(seen), 8)

    def test_none_come_later(self):
        # What reaches at all does so before one of the ticks 0 to n - 1.
        for _, plant, start, reading in plants_of(101, 40):
            run = own_run(plant, numbers(start), 12)
            for hand, (_, gauges) in enumerate(plant[1]):
                ever = any(own_shown(gauge, cells) for gauge in number_rows(gauges) for cells in run)
                self.assertEqual(bool(start_delays(plant, start, hand)), ever)

    def test_edges(self):
        self.assertEqual([asked(self, start_delays, MIXED, row(0, 0), hand) for hand in range(4)], [()] * 4)
        self.assertEqual([asked(self, reading_delays, MIXED, hand, row(0, 0)) for hand in range(4)], [()] * 4)
        self.assertEqual([start_delays(MIXED, row(0, 1), hand) for hand in range(4)], [(0, 1), (), (0, 1), ()])
        self.assertEqual([reading_delays(MIXED, hand, row(1, 1)) for hand in range(4)], [(0, 1), (0, 1), (), ()])
        self.assertEqual([hand_delays(MIXED, 1, other) for other in range(4)], [(0, 1), (), (0, 1), ()])
        self.assertEqual([hand_delays(MIXED, hand, 0) for hand in range(4)], [(0, 1), (0, 1), (), ()])
        self.assertEqual(hand_delays(CANCELLING, 0, 0), ())
        self.assertEqual(hand_delays(CANCELLING, 3, 3), ())
        self.assertEqual(start_delays(CANCELLING, row(3, 3), 0), ())
        self.assertEqual(start_delays(LINE, row(0, 1, 0, 0), 1), (2,))

    def test_great_numbers(self):
        die = dice(102)
        plant = (great_table(die, 3, 3), ((great_table(die, 1, 3), great_table(die, 2, 3)),))
        self.assertEqual(asked(self, hand_delays, plant, 0, 0), (0, 1, 2))
        start = great_row(die, 3)
        self.assertEqual(stops(plant, start, great_row(die, 3)), ((0, 0, 0, 0),))

    def test_no_hands(self):
        for hand in (4, 9, -1, -4, 10 ** 20):
            refused(self, NoHand, {"hand": hand}, start_delays, MIXED, row(1, 0), hand)
            refused(self, NoHand, {"hand": hand}, reading_delays, MIXED, hand, row(1, 0))
            refused(self, NoHand, {"hand": hand}, hand_delays, MIXED, hand, 0)
            refused(self, NoHand, {"hand": hand}, hand_delays, MIXED, 0, hand)
            refused(self, NoHand, {"hand": hand}, hand_delays, MIXED, hand, -7)
        refused(self, NoHand, {"hand": 0}, start_delays, LONE, row(1), 0)
        refused(self, NoHand, {"hand": 0}, reading_delays, LONE, 0, row(1))
        refused(self, NoHand, {"hand": 0}, hand_delays, LONE, 0, 0)


class Reached(unittest.TestCase):
    def test_by_all_rows_of_hands(self):
        for _, plant, start, reading in plants_of(103, 60):
            reach = own_reach(plant, start, reading)
            first, between, last = reach
            hands = range(len(plant[1]))
            pairs = tuple((hand, other) for hand in hands for other in hands if between[hand][other])
            self.assertEqual(asked(self, links, plant), pairs)
            self.assertEqual(asked(self, first_reached, plant, start), tuple(hand for hand in hands if first[hand]))
            chains = [
                chain for many in range(1, len(plant[1]) + 1) for chain in all_of(hands, repeat=many)
                if all(pair in pairs for pair in zip(chain, chain[1:]))
            ]
            self.assertEqual(
                asked(self, reached, plant, start),
                tuple(sorted({chain[-1] for chain in chains if first[chain[0]]})),
            )
            self.assertEqual(
                asked(self, reaching, plant, reading),
                tuple(sorted({chain[0] for chain in chains if last[chain[-1]]})),
            )

    def test_edges(self):
        self.assertEqual(asked(self, links, LONE), ())
        self.assertEqual(asked(self, first_reached, LONE, row(1)), ())
        self.assertEqual(asked(self, reached, LONE, row(1)), ())
        self.assertEqual(asked(self, reaching, LONE, row(1)), ())
        self.assertEqual(links(CANCELLING), ((0, 1), (1, 0)))
        self.assertEqual(reached(CANCELLING, row(0, 0)), ())
        self.assertEqual(reaching(CANCELLING, row(0, 0)), ())
        self.assertEqual(reached(CANCELLING, row(0, 1)), (0, 1))
        self.assertEqual(reaching((CANCELLING[0], CANCELLING[1][1:]), row(1, -1)), (0,))
        self.assertEqual(reaching(MIXED, row(1, 0)), (0, 1))


class Ways(unittest.TestCase):
    def test_by_all_rows_of_hands(self):
        kinds = set()
        for _, plant, start, reading in plants_of(104, 80):
            reach, found = own_reach(plant, start, reading), own_ways(plant, start, reading)
            self.assertEqual(asked(self, all_ways, plant, start, reading), found)
            fewest = min(((len(hands), hands) for hands in found), default=(0, None))[1]
            self.assertEqual(asked(self, way, plant, start, reading), fewest)
            took = [asked(self, ticks, plant, start, reading, hands) for hands in found]
            self.assertEqual(took, [own_ticks(reach, hands) for hands in found])
            self.assertEqual(asked(self, soonest, plant, start, reading), min(took, default=None))
            kinds.add((len(found), fewest and len(fewest)))
        self.assertGreater(len(kinds), 5)

    def test_all_rows_with_hands_more_than_once(self):
        for _, plant, start, reading in plants_of(105, 25, most_hands=3):
            reach, many = own_reach(plant, start, reading), len(plant[1])
            for long in range(4):
                for hands in all_of(range(-1, many + 1), repeat=long):
                    told = all(0 <= hand < many for hand in hands) and own_is_way(reach, hands)
                    self.assertIs(is_way(plant, start, reading, hands), told)
                    if told:
                        took = ticks(plant, start, reading, hands)
                        self.assertEqual(took, own_ticks(reach, hands))
                        self.assertGreaterEqual(took, soonest(plant, start, reading))
                        self.assertGreaterEqual(len(hands), len(way(plant, start, reading)))
                    else:
                        with self.assertRaises(Unfit):
                            ticks(plant, start, reading, hands)

    def test_is_way(self):
        self.assertIs(asked(self, is_way, LINE, FIRST, FIRST, (0, 1)), True)
        self.assertIs(asked(self, is_way, LINE, FIRST, FIRST, (1,)), True)
        self.assertIs(is_way(LINE, FIRST, FIRST, (1, 1, 0, 1) * 30), True)
        for thing in (
            (), (0,), (1, 0), (2,), (2, 1), (0, 2), (0, 0, 1), [0, 1], [1], (True,), (False, True), (0, True), 1, (1.0,),
            ("1",), ((1,),), (1, None), (-2,), (4,), (-3, 1), (1, 3), (3, 1), (1, 10 ** 20), {1: 1}, "1", (None, 1),
        ) + OTHER_THINGS:
            self.assertIs(is_way(LINE, FIRST, FIRST, thing), False, thing)
        for thing in ((0,), (0, 1), ()):
            self.assertIs(asked(self, is_way, LONE, row(1), row(1), thing), False)
            self.assertIs(is_way(LINE, row(0, 0, 0, 0), FIRST, thing), False)
            self.assertIs(is_way(LINE, FIRST, row(0, 0, 0, 0), thing), False)

    def test_none(self):
        for plant, start, reading in (
            (LONE, row(1), row(1)), (LINE, FIRST, row(0, 0, 0, 0)), (LINE, row(0, 0, 0, 0), FIRST),
            (LINE, row(0, 0, 0, 0), row(0, 0, 0, 0)),
            (CANCELLING, row(0, 1), row(0, 0)), ((CANCELLING[0], CANCELLING[1][:1]), row(1, 0), row(1, -1)),
        ):
            self.assertIs(asked(self, way, plant, start, reading), None)
            self.assertEqual(asked(self, all_ways, plant, start, reading), [])
            self.assertIs(asked(self, soonest, plant, start, reading), None)
            self.assertEqual(asked(self, stops, plant, start, reading), ())
            refused(self, Unfit, {}, ticks, plant, start, reading, ())
            refused(self, Unfit, {}, ticks, plant, start, reading, (0,))

    def test_ticks_of_none(self):
        for hands in ((), (0,), (2,), (1, 0), (3,), (-2,), (1, -2), (-3, 1), (0, 1, 9), (10 ** 20,)):
            refused(self, Unfit, {}, ticks, LINE, FIRST, FIRST, hands)
        self.assertEqual(asked(self, ticks, LINE, FIRST, FIRST, (0, 1)), 3)
        self.assertEqual(asked(self, ticks, LINE, FIRST, FIRST, (1, 1, 1)), 3 + 3 + 3 + 3)

    def test_a_list_belongs_to_the_caller(self):
        found = all_ways(LINE, FIRST, FIRST)
        found.append(None)
        self.assertEqual(all_ways(LINE, FIRST, FIRST), [(0, 1), (1,)])


def own_stops(plant, start, reading):
    """By all WAYS and all choices of wires: the least that the document tells."""
    reach, found = own_reach(plant, start, reading), own_ways(plant, start, reading)
    if not found:
        return ()
    hands = min((own_ticks(reach, hands), len(hands), hands) for hands in found)[2]
    own = [(number_rows(levers), number_rows(gauges)) for levers, gauges in plant[1]]
    tick = reach[0][hands[0]][0]
    gauge = min(
        at for at, read in enumerate(own[hands[0]][1]) if tick in own_delays(plant, [numbers(start)], [read])
    )
    acts = []
    for one, other in zip(hands, hands[1:]):
        delay = reach[1][one][other][0]
        lever, coming = min(
            (at, to) for at, lever in enumerate(own[one][0]) for to, read in enumerate(own[other][1])
            if delay in own_delays(plant, [lever], [read])
        )
        acts.append((one, lever, gauge, tick))
        gauge, tick = coming, tick + delay + 1
    delay = reach[2][hands[-1]][0]
    lever = min(
        at for at, lever in enumerate(own[hands[-1]][0]) if delay in own_delays(plant, [lever], [numbers(reading)])
    )
    return tuple(acts + [(hands[-1], lever, gauge, tick)])


class Stops(unittest.TestCase):
    def test_as_told(self):
        longs = set()
        for _, plant, start, reading in plants_of(106, 80, most=3):
            found = asked(self, stops, plant, start, reading)
            self.assertEqual(found, own_stops(plant, start, reading))
            longs.add(len(found))
        self.assertGreaterEqual(len(longs), 3)

    def test_the_least_wires(self):
        # Of both hands the first wires are 0; the first gauge that serves comes first.
        plant = (
            table((0, 0), (1, 0)),
            (
                (table((0, 0), (1, 0)), table((0, 0), (0, 1), (0, 2))),
                (table((0, 0), (0, 3)), table((0, 0), (1, 0), (0, 1))),
            ),
        )
        self.assertEqual(asked(self, stops, plant, row(0, 1), row(0, 1)), ((1, 1, 2, 0),))
        blind = (plant[0], (plant[1][0], (plant[1][1][0], table((0, 0), (1, 0)))))
        self.assertEqual(asked(self, stops, blind, row(0, 1), row(0, 1)), ((0, 1, 1, 0),))
        self.assertEqual(ticks(blind, row(0, 1), row(0, 1), (0,)), 2)
        self.assertEqual(ticks(blind, row(0, 1), row(0, 1), (0, 1)), 2)
        # Just as soon by two hands as by one: the fewest hands count.
        self.assertEqual(soonest(blind, row(0, 1), row(0, 1)), 2)

    def test_just_as_soon(self):
        start = reading = row(1, 0, 0)
        # As many ticks by (0, 1) as by (1,): though (0, 1) is less, the fewest hands count.
        slow = (table((0, 0, 0), (1, 0, 0), (0, 0, 0)), (
            (table((0, 0, 1)), table((1, 0, 0))), (table((1, 0, 0)), table((0, 1, 1))),
        ))
        self.assertEqual(all_ways(slow, start, reading), [(0, 1), (1,)])
        self.assertEqual([ticks(slow, start, reading, own) for own in ((0, 1), (1,))], [2, 2])
        self.assertEqual(asked(self, stops, slow, start, reading), ((1, 0, 0, 1),))

    def test_what_they_do(self):
        kinds = set()
        for die, plant, start, reading in plants_of(107, 110):
            soon = soonest(plant, start, reading)
            idle_shows = [own_shown(numbers(reading), cells) for cells in own_run(plant, numbers(start), 24)]
            if soon is not None:
                clock = acts_clock(plant, stops(plant, start, reading))
                for _ in range(3):
                    cells = some_row(die, len(plant[0]))
                    more = shown_more(plant, cells, start, reading, clock, soon)
                    self.assertEqual(more[:soon], idle_shows[:soon])
                    self.assertNotEqual(more[soon], idle_shows[soon])
                kinds.add((len(stops(plant, start, reading)), soon))
            # Whatever is done else: nothing sooner.
            clock = tuple(some_rules(die, plant) for _ in range(6))
            many = 8 if soon is None else soon - 1
            more = shown_more(plant, some_row(die, len(plant[0])), start, reading, clock, many)
            self.assertEqual(more, idle_shows[:many + 1])
        self.assertGreater(len(kinds), 4)

    def test_example(self):
        clock = acts_clock(LINE, stops(LINE, FIRST, FIRST))
        self.assertEqual(shown_more(LINE, row(0, 0, 0, 0), FIRST, FIRST, clock, 3), [1, 0, 0, 1])
        self.assertEqual(number((1, 2)), Fraction(1, 2))


if __name__ == "__main__":
    unittest.main()

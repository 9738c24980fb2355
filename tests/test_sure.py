"""What is sure [11]."""

import unittest
from fractions import Fraction
from itertools import combinations, product as all_of

from handsunread.plants import all_rules, idle, turned_about
from handsunread.plays import played
from handsunread.spaces import is_space, span
from handsunread.sure import (
    course, is_sure, is_sure_paper, is_unsure_paper, strayed, sure_paper, sure_readings, sure_starts, unseen,
    unsure_paper, untouched,
)
from handsunread.ways import reached, soonest
from tests.own import (
    OTHER_THINGS, asked, dice, great_row, great_table, number_rows, numbers, own_applied, own_delays, own_in, own_kept,
    own_rank, own_run, own_shown, own_ways, own_within, row, some_row, some_rules, spoiled, table, thin_plant, thin_row,
)
from tests.test_plants import LONE, MIXED
from tests.test_ways import acts_clock, plants_of, shown_more

ONE = row(1)
# One cell that stays: one hand moves it and sees nothing, the other one sees it and moves nothing.
BLIND = (table((1,)), ((table((1,)), ()), ((), table((1,)))))
WIRED = (table((1,)), ((table((1,)), table((1,))),))
ONCE = ((table((1,)),),)
PAIR = (table((0, 0), (0, 0)), ((table((0, 1)), table((1, 0))),))


def grid(long, low=-1, high=1):
    return [row(*values) for values in all_of(range(low, high + 1), repeat=long)]


def own_course(plant, start, reading, ticks):
    return row(*[own_shown(numbers(reading), cells) for cells in own_run(plant, numbers(start), ticks + 1)])


def act_clocks(plant, ticks):
    """All CLOCKS by which some hands act once each, by one gauge and one lever, before so many ticks."""
    acts = [
        [
            (hand, lever, gauge, tick)
            for lever in range(len(levers)) for gauge in range(len(gauges)) for tick in range(ticks)
        ]
        for hand, (levers, gauges) in enumerate(plant[1])
    ]
    for many in range(len(acts) + 1):
        for hands in combinations(acts, many):
            for chosen in all_of(*hands):
                yield acts_clock(plant, chosen)


class IsSure(unittest.TestCase):
    def test_by_all_ways(self):
        found = set()
        for _, plant, start, reading in plants_of(110, 100):
            told = not own_ways(plant, start, reading)
            self.assertIs(asked(self, is_sure, plant, start, reading), told)
            found.add((told, len(plant[1])))
        self.assertGreaterEqual(len(found), 8)

    def test_by_all_clocks_of_single_acts(self):
        found = [0, 0]
        for _, plant, start, reading in plants_of(111, 90, most_cells=3, most_hands=2, most=2):
            many = 4 * len(plant[0])
            idle_shows = list(numbers(own_course(plant, start, reading, many)))
            strays = []
            for clock in act_clocks(plant, 4):
                more = shown_more(plant, row(*[0] * len(plant[0])), start, reading, clock, many)
                strays.extend(tick for tick in range(many + 1) if more[tick] != idle_shows[tick])
            self.assertIs(is_sure(plant, start, reading), not strays)
            self.assertEqual(min(strays, default=None), soonest(plant, start, reading))
            found[not strays] += 1
        self.assertGreater(min(found), 15)

    def test_whatever_is_done(self):
        found = 0
        for die, plant, start, reading in plants_of(112, 120):
            if is_sure(plant, start, reading):
                clock = tuple(some_rules(die, plant) for _ in range(8))
                more = shown_more(plant, some_row(die, len(plant[0])), start, reading, clock, 10)
                self.assertEqual(row(*more), asked(self, course, plant, start, reading, 10))
                found += 1
        self.assertGreater(found, 20)

    def test_edges(self):
        for plant, start, reading, told in (
            (LONE, ONE, ONE, True), (BLIND, ONE, ONE, True), (WIRED, ONE, ONE, False), (WIRED, row(0), ONE, True),
            (WIRED, ONE, row(0), True), (WIRED, row(0), row(0), True), (MIXED, row(1, 0), row(1, 0), True),
            (MIXED, row(0, 1), row(1, 0), False), (MIXED, row(0, 1), row(0, 1), False),
            (PAIR, row(0, 1), row(0, 1), True), (PAIR, row(1, 0), row(1, 0), True), (PAIR, row(1, 0), row(0, 1), False),
        ):
            self.assertIs(asked(self, is_sure, plant, start, reading), told)

    def test_numbers_may_cancel(self):
        # By the shape of the tables there is a way; by the numbers there is none.
        plant = (table((1, 0), (0, 1)), ((table((1, 1)), table((1, -1))),))
        self.assertIs(is_sure(plant, row(2, 2), row(1, 0)), True)
        self.assertIs(is_sure(plant, row(2, 1), row(3, -3)), True)
        self.assertIs(is_sure(plant, row(2, 1), row(3, -2)), False)

    def test_turned_about(self):
        for _, plant, start, reading in plants_of(113, 60):
            self.assertIs(is_sure(turned_about(plant), reading, start), is_sure(plant, start, reading))


def own_is_sure_paper(plant, start, reading, thing):
    """Of a thing of the right form: by sums of the test's own."""
    lot, hidden, moved = thing
    rows = number_rows(plant[0])
    hide, move = number_rows(hidden), number_rows(moved)
    kept = all(own_in(hide, own_applied(rows, cells)) for cells in hide)
    kept = kept and all(own_in(move, own_applied(rows, cells)) for cells in move)
    kept = kept and own_within(move, hide) and own_in(hide, numbers(start))
    for hand, (levers, gauges) in enumerate(plant[1]):
        if hand in lot:
            kept = kept and own_within(number_rows(levers), move)
        else:
            kept = kept and not any(own_shown(gauge, cells) for gauge in number_rows(gauges) for cells in hide)
    return kept and not any(own_shown(numbers(reading), cells) for cells in move)


class SurePapers(unittest.TestCase):
    def test_papers(self):
        found = [0, 0]
        for _, plant, start, reading in plants_of(114, 80):
            thing = asked(self, sure_paper, plant, start, reading)
            if own_ways(plant, start, reading):
                self.assertIs(thing, None)
            else:
                self.assertIs(asked(self, is_sure_paper, plant, start, reading, thing), True)
                self.assertTrue(own_is_sure_paper(plant, start, reading, thing))
                self.assertTrue(is_space(thing[1], len(plant[0])) and is_space(thing[2], len(plant[0])))
            found[thing is None] += 1
        self.assertGreater(min(found), 10)

    def test_all_lots_and_spaces(self):
        # Whatever is made of lots and SPACES: only of what is sure there is a paper, and no flaw is let.
        found = [0, 0]
        spaces = ((), table((1, 0)), table((0, 1)), table((1, 1)), table((1, -1)), table((1, 0), (0, 1)))
        die = dice(115)
        for _ in range(40):
            plant = thin_plant(die, 2, die.randint(0, 2), most=1)
            start, reading = thin_row(die, 2, 2), thin_row(die, 2, 2)
            any_paper = False
            for many in range(len(plant[1]) + 1):
                for lot in combinations(range(len(plant[1])), many):
                    for hidden, moved in all_of(spaces, spaces):
                        told = own_is_sure_paper(plant, start, reading, (lot, hidden, moved))
                        self.assertIs(is_sure_paper(plant, start, reading, (lot, hidden, moved)), told)
                        found[told] += 1
                        any_paper = any_paper or told
            if any_paper:
                self.assertIs(is_sure(plant, start, reading), True)
        self.assertGreater(min(found), 100)

    def test_spoiled(self):
        thing = sure_paper(BLIND, ONE, ONE)
        self.assertIs(asked(self, is_sure_paper, BLIND, ONE, ONE, thing), True)
        self.assertIs(asked(self, is_sure_paper, BLIND, ONE, ONE, ((1,), table((1,)), ())), True)
        for other in spoiled(((1,), table((1,)), ())) + list(OTHER_THINGS):
            self.assertIs(is_sure_paper(BLIND, ONE, ONE, other), False, other)

    def test_one_flaw_each(self):
        plant = (
            table((1, 0, 0), (0, 2, 0), (0, 0, 0)),
            ((table((1, 0, 0)), table((0, 1, 0))), ((), table((1, 0, 1))), ((), ())),
        )
        # Hand 0 sees cell 1, moves cell 0; hand 1 sees that and moves nothing.
        start, reading = row(0, 1, 0), row(0, 1, 1)
        lot, hidden, moved = (0, 1), table((1, 0, 0), (0, 1, 0)), table((1, 0, 0))
        for thing, told in (
            ((lot, hidden, moved), True), (((0, 1, 2), hidden, moved), True),
            ((lot, table((1, 0, 0), (0, 1, 0), (0, 0, 1)), moved), True),
            # A hand of the lot is missing: its gauge shows some; its lever is not moved.
            (((0,), hidden, moved), False), (((1,), hidden, moved), False), (((), hidden, moved), False),
            ((lot, hidden, ()), False), ((lot, table((0, 1, 0)), ()), False),
            # The READING shows some of what is moved.
            ((lot, hidden, table((1, 0, 0), (0, 1, 0))), False),
            # moved is not within hidden; start is not in it.
            ((lot, table((0, 1, 0)), moved), False), ((lot, table((1, 0, 0)), moved), False),
            # Not kept; not reduced; rows out of order; too long.
            ((lot, table((1, 1, 0), (0, 0, 1)), moved), False), ((lot, table((2, 0, 0), (0, 1, 0)), moved), False),
            ((lot, table((0, 1, 0), (1, 0, 0)), moved), False), ((lot, table((1, 0), (0, 1)), moved), False),
            ((lot, table((1, 1, 0), (0, 1, 0)), moved), False), ((lot, hidden, table((1, 0, 0), (0, 0, 0))), False),
            # No lot.
            (((1, 0), hidden, moved), False), (((0, 1, 1), hidden, moved), False), (((0, 1, 3), hidden, moved), False),
            (((-1, 0, 1), hidden, moved), False), (((False, True), hidden, moved), False), (([0, 1], hidden, moved), False),
            ((lot, hidden), False), ((lot, hidden, moved, ()), False), ([lot, hidden, moved], False),
            ((lot, list(hidden), moved), False), ((lot, hidden, [row(1, 0, 0)]), False), ((None, hidden, moved), False),
        ):
            self.assertIs(asked(self, is_sure_paper, plant, start, reading, thing), told, thing)
        self.assertIs(is_sure_paper(plant, start, row(1, 0, 0), (lot, hidden, moved)), False)
        self.assertIs(is_sure_paper(plant, row(0, 0, 1), reading, (lot, hidden, moved)), False)
        loose = (table((1, 0, 0), (0, 2, 0), (1, 0, 0)), plant[1])
        self.assertIs(is_sure_paper(loose, start, row(0, 1, 0), (lot, hidden, moved)), False)
        self.assertIs(is_sure_paper(LONE, ONE, ONE, ((), table((1,)), ())), True)
        self.assertIs(is_sure_paper(LONE, ONE, ONE, ((), (), ())), False)
        self.assertIs(is_sure_paper(LONE, row(0), row(0), ((), (), ())), True)

    def test_the_least_spaces_make_one(self):
        found = 0
        for _, plant, start, reading in plants_of(116, 60):
            if own_ways(plant, start, reading):
                continue
            lot = reached(plant, start)
            levers = [cells for hand in lot for cells in number_rows(plant[1][hand][0])]
            moved = span([row(*cells) for cells in own_kept(plant, levers)])
            hidden = span([row(*cells) for cells in own_kept(plant, levers + [numbers(start)])])
            self.assertIs(is_sure_paper(plant, start, reading, (lot, hidden, moved)), True)
            found += 1
        self.assertGreater(found, 20)


class UnsurePapers(unittest.TestCase):
    def test_papers(self):
        found, soons = [0, 0], set()
        for _, plant, start, reading in plants_of(117, 80):
            thing = asked(self, unsure_paper, plant, start, reading)
            if thing is None:
                self.assertIs(is_sure(plant, start, reading), True)
            else:
                self.assertIs(asked(self, is_unsure_paper, plant, start, reading, thing), True)
                self.assertEqual(thing[1], soonest(plant, start, reading))
                self.assertTrue(all(not is_unsure_paper(plant, start, reading, (thing[0], sooner)) for sooner in range(thing[1])))
                soons.add(thing[1])
            found[thing is None] += 1
        self.assertGreater(min(found), 10)
        self.assertGreaterEqual(len(soons), 3)

    def test_all_clocks(self):
        found = [0, 0]
        for die, plant, start, reading in plants_of(118, 120, most_cells=3, most_hands=2):
            clock, tick = tuple(some_rules(die, plant) for _ in range(die.randint(0, 5))), die.randint(0, 8)
            more = shown_more(plant, row(*[0] * len(plant[0])), start, reading, clock, tick)
            told = more[tick] != numbers(own_course(plant, start, reading, tick))[tick]
            self.assertIs(asked(self, is_unsure_paper, plant, start, reading, (clock, tick)), told)
            found[told] += 1
        self.assertGreater(min(found), 8)

    def test_edges(self):
        for thing, told in (
            ((ONCE, 1), True), ((ONCE, 0), False), ((ONCE, 99), True), ((ONCE, 100), False), ((ONCE, -1), False),
            ((ONCE * 99, 99), True), ((ONCE * 300, 99), True), ((ONCE * 300, 1), True), (((), 1), False),
            (((), 99), False), ((ONCE, True), False), ((ONCE, None), False), ((ONCE, "1"), False), ((ONCE, 10 ** 30), False),
            ((ONCE,), False), ((ONCE, 1, 1), False), ([ONCE, 1], False), ((list(ONCE), 1), False), ((ONCE[0], 1), False),
            ((1, ONCE), False), (((idle(WIRED),), 1), False), (((idle(WIRED),) + ONCE, 1), False),
            (((idle(WIRED),) + ONCE, 2), True), ((ONCE + ((),), 1), False),
        ):
            self.assertIs(asked(self, is_unsure_paper, WIRED, ONE, ONE, thing), told, thing)
        for thing in OTHER_THINGS:
            self.assertIs(is_unsure_paper(WIRED, ONE, ONE, thing), False, thing)
        for thing in spoiled((ONCE, 1)):
            told = thing == (ONCE, 0)
            self.assertIs(is_unsure_paper(WIRED, ONE, ONE, thing), told, thing)
        self.assertIs(asked(self, is_unsure_paper, LONE, ONE, ONE, (((), ()), 2)), False)
        self.assertIs(asked(self, unsure_paper, LONE, ONE, ONE), None)
        # By taking and putting back: other than the course at one tick alone.
        back = ONCE + ((table((Fraction(-1, 2),)),),)
        shows = [tick for tick in range(6) if is_unsure_paper(WIRED, ONE, ONE, (back, tick))]
        self.assertEqual(shows, [1])

    def test_great_numbers(self):
        die = dice(119)
        plant = (great_table(die, 3, 3), ((great_table(die, 1, 3), great_table(die, 1, 3)),))
        start, reading = great_row(die, 3), great_row(die, 3)
        clock = tuple((great_table(die, 1, 1),) for _ in range(12))
        self.assertIs(is_unsure_paper(plant, start, reading, (clock, 99)), True)
        self.assertIs(is_unsure_paper(plant, start, reading, ((), 99)), False)
        self.assertIs(asked(self, is_unsure_paper, plant, start, reading, unsure_paper(plant, start, reading)), True)
        self.assertEqual(strayed(plant, start, reading, clock, 3)[0], (0, 1))


class Strayed(unittest.TestCase):
    def test_by_plays(self):
        for die, plant, start, reading in plants_of(120, 50):
            clock, ticks = tuple(some_rules(die, plant) for _ in range(die.randint(0, 4))), die.randint(0, 6)
            shows = [own_shown(numbers(reading), numbers(cells)) for cells in played(plant, start, clock, ticks)[0]]
            told = [one - other for one, other in zip(shows, numbers(own_course(plant, start, reading, ticks)))]
            self.assertEqual(asked(self, strayed, plant, start, reading, clock, ticks), row(*told))
            self.assertEqual(asked(self, course, plant, start, reading, ticks), own_course(plant, start, reading, ticks))

    def test_edges(self):
        self.assertEqual(asked(self, strayed, WIRED, ONE, ONE, ONCE, 0), row(0))
        self.assertEqual(asked(self, strayed, WIRED, ONE, ONE, ONCE, 40), row(0, *[1] * 40))
        self.assertEqual(asked(self, strayed, WIRED, ONE, ONE, (), 40), row(*[0] * 41))
        self.assertEqual(asked(self, strayed, WIRED, row(Fraction(1, 2)), row(3), ONCE * 12, 2), row(0, Fraction(3, 2), Fraction(9, 2)))
        self.assertEqual(asked(self, strayed, LONE, ONE, ONE, ((), ()), 3), row(0, 0, 0, 0))
        self.assertEqual(asked(self, course, LONE, ONE, row(3), 0), row(3))
        self.assertEqual(asked(self, course, LONE, ONE, ONE, 40), row(*[2 ** tick for tick in range(41)]))
        self.assertEqual(asked(self, course, MIXED, row(0, 0), row(1, 1), 2), row(0, 0, 0))
        self.assertEqual(asked(self, course, MIXED, row(0, 1), row(0, 0), 2), row(0, 0, 0))
        self.assertEqual(len(course(MIXED, row(0, 1), row(1, 1), 40)), 41)


class Spaces(unittest.TestCase):
    def test_by_all_rows(self):
        sizes = set()
        for _, plant, start, reading in plants_of(121, 60, most_cells=3):
            long = len(plant[0])
            readings, starts = asked(self, sure_readings, plant, start), asked(self, sure_starts, plant, reading)
            none, all_starts = asked(self, untouched, plant), asked(self, unseen, plant)
            for space in (readings, starts, none, all_starts):
                self.assertTrue(is_space(space, long))
            hands = [(number_rows(levers), number_rows(gauges)) for levers, gauges in plant[1]]
            for own in grid(long):
                self.assertEqual(own_in(number_rows(readings), numbers(own)), not own_ways(plant, start, own))
                self.assertEqual(own_in(number_rows(starts), numbers(own)), not own_ways(plant, own, reading))
                reaches = any(own_delays(plant, levers, [numbers(own)]) for levers, _ in hands)
                self.assertEqual(own_in(number_rows(none), numbers(own)), not reaches)
                reaches = any(own_delays(plant, [numbers(own)], gauges) for _, gauges in hands)
                self.assertEqual(own_in(number_rows(all_starts), numbers(own)), not reaches)
            for found in readings:
                self.assertTrue(is_sure(plant, start, found))
            for found in starts:
                self.assertTrue(is_sure(plant, found, reading))
            for found in none:
                self.assertTrue(is_sure(plant, start, found))
            for found in all_starts:
                self.assertTrue(is_sure(plant, found, reading))
            sizes.add((len(readings), len(starts), len(none), len(all_starts)))
        self.assertGreater(len(sizes), 8)

    def test_edges(self):
        same = table((1, 0), (0, 1))
        self.assertEqual(asked(self, sure_readings, MIXED, row(0, 0)), same)
        self.assertEqual(asked(self, sure_starts, MIXED, row(0, 0)), same)
        self.assertEqual(asked(self, sure_readings, MIXED, row(0, 1)), ())
        self.assertEqual(asked(self, untouched, MIXED), ())
        self.assertEqual(asked(self, unseen, MIXED), ())
        for function in (sure_readings, sure_starts):
            self.assertEqual(asked(self, function, LONE, ONE), table((1,)))
        self.assertEqual((asked(self, untouched, LONE), asked(self, unseen, LONE)), (table((1,)), table((1,))))
        self.assertEqual((untouched(BLIND), unseen(BLIND), sure_readings(BLIND, ONE)), ((), (), table((1,))))
        self.assertEqual(sure_starts(PAIR, row(1, 2)), table((0, 1)))

    def test_the_greatest(self):
        for _, plant, start, reading in plants_of(122, 40):
            long = len(plant[0])
            moved = [cells for hand in reached(plant, start) for cells in own_kept(plant, number_rows(plant[1][hand][0]))]
            self.assertEqual(len(sure_readings(plant, start)), long - own_rank(moved))
            about = turned_about(plant)
            self.assertEqual(sure_starts(plant, reading), sure_readings(about, reading))
            self.assertEqual(unseen(plant), untouched(about))

    def test_all_rules_at_once(self):
        # A reading that is sure shows the same more, by each CLOCK of RULES of 0 and 1.
        rules = all_rules(PAIR)
        for clock in all_of(rules, repeat=3):
            self.assertEqual(strayed(PAIR, row(1, 1), row(1, 0), clock, 4), row(0, 0, 0, 0, 0))


if __name__ == "__main__":
    unittest.main()

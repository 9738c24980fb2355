"""Plays [9]."""

import unittest
from fractions import Fraction

from handsunread.errors import NoHand, Unfit
from handsunread.plants import all_rules, idle
from handsunread.plays import (
    all_together, apart, go_together, idled, is_clock, is_moves, is_play, is_steady, played, seen, shown_along, steadied,
    ticked,
)
from tests.own import (
    NO_FRACTIONS, OTHER_THINGS, asked, dice, is_none_spoiled, number_rows, numbers, own_applied, own_shown, refused,
    row, some_plant, some_row, some_rules, some_table, table,
)
from tests.test_plants import LONE, MIXED


def some_steady(die, plant, most=2):
    found = []
    for levers, gauges in plant[1]:
        many = die.randint(0, most)
        found.append((
            some_table(die, many, many), some_table(die, many, len(gauges)), some_table(die, len(levers), many),
            some_table(die, len(levers), len(gauges)),
        ))
    return tuple(found)


def own_ticked(plant, cells, moves):
    found = own_applied(number_rows(plant[0]), cells)
    for (levers, _), own in zip(plant[1], moves):
        for lever, much in zip(number_rows(levers), own):
            found = [value + much * more for value, more in zip(found, lever)]
    return found


def own_seen(plant, cells):
    return [own_applied(number_rows(gauges), cells) for _, gauges in plant[1]]


def packed(rows, doings):
    return tuple(row(*cells) for cells in rows), tuple(tuple(row(*own) for own in moves) for moves in doings)


def own_played(plant, cells, clock, ticks):
    rows, doings = [cells], []
    for tick in range(ticks):
        shows = own_seen(plant, rows[-1])
        if tick < len(clock):
            moves = [own_applied(number_rows(rule), show) for rule, show in zip(clock[tick], shows)]
        else:
            moves = [[0] * len(levers) for levers, _ in plant[1]]
        doings.append(moves)
        rows.append(own_ticked(plant, rows[-1], moves))
    return packed(rows, doings)


def own_steadied(plant, cells, steady, ticks):
    rows, doings = [cells], []
    memories = [[Fraction(0)] * len(program[0]) for program in steady]
    for _ in range(ticks):
        moves, coming = [], []
        for (keeps, hears, tells, rule), memory, show in zip(steady, memories, own_seen(plant, rows[-1])):
            moves.append([
                own_shown(numbers(told), memory) + own_shown(numbers(ruled), show) for told, ruled in zip(tells, rule)
            ])
            coming.append([
                own_shown(numbers(kept), memory) + own_shown(numbers(heard), show) for kept, heard in zip(keeps, hears)
            ])
        memories = coming
        doings.append(moves)
        rows.append(own_ticked(plant, rows[-1], moves))
    return packed(rows, doings)


class Things(unittest.TestCase):
    def test_is_moves(self):
        is_none_spoiled(self, is_moves, MIXED, (row(1, Fraction(1, 2)), row(0), (), ()))
        self.assertIs(asked(self, is_moves, LONE, ()), True)
        for thing in (
            (row(1, 1), row(1), ()), (row(1, 1), row(1), (), (), ()), (row(1), row(1), (), ()),
            (row(1, 1), (), (), ()), (row(1, 1), row(1), row(1), ()), (row(1, 1, 1), row(1), (), ()), (),
            table((1,), (1,)),
        ) + OTHER_THINGS:
            self.assertIs(is_moves(MIXED, thing), False, thing)
        for part in NO_FRACTIONS:
            self.assertIs(is_moves(MIXED, (((1, 1), part), row(1), (), ())), False)

    def test_is_clock(self):
        rules = (table((1,), (2,)), ((),), (), ())
        self.assertIs(asked(self, is_clock, MIXED, ()), True)
        is_none_spoiled(self, is_clock, MIXED, (rules, idle(MIXED)))
        self.assertIs(is_clock(MIXED, (rules,) * 50), True)
        self.assertIs(asked(self, is_clock, LONE, ((), (), ())), True)
        for thing in (rules, (rules, ()), (rules, rules[:3]), ((table((1,)), ((),), (), ()),), [rules], None, "", 0):
            self.assertIs(is_clock(MIXED, thing), False, thing)
        self.assertIs(is_clock(LONE, (((),),)), False)

    def test_is_steady(self):
        first = (table((1, 2), (3, 4)), table((1,), (0,)), table((1, 1), (0, 2)), table((1,), (Fraction(1, 2),)))
        blind = (table((2,)), ((),), table((1,)), ((),))
        deaf = (table((2,)), table((1, 1)), (), ())
        idle_one = ((), (), (), ())
        steady = (first, blind, deaf, idle_one)
        is_none_spoiled(self, is_steady, MIXED, steady)
        without = (((), (), ((), ()), table((1,), (0,))), ((), (), ((),), ((),)), idle_one, idle_one)
        is_none_spoiled(self, is_steady, MIXED, without)
        self.assertIs(asked(self, is_steady, LONE, ()), True)
        keeping = (table((0, 1), (1, 0)), ((), ()), (), ())
        self.assertIs(is_steady(MIXED, (first, blind, deaf, keeping)), True)
        for other in (
            first[:3], first + ((),), (table((1, 2)),) + first[1:], (table((1,), (2,)),) + first[1:],
            (first[0], table((1,))) + first[2:], (first[0], table((1, 1), (0, 0))) + first[2:],
            first[:2] + (table((1, 1)), first[3]), first[:2] + (table((1,), (2,)), first[3]),
            first[:3] + (table((1,)),), first[:3] + (table((1, 1), (1, 1)),), (), ((), (), (), ()), None,
            (first[0], ((), ()), first[2], first[3]), (1, 2, 3, 4), ((), table((1,)), ((), ()), first[3]),
        ):
            self.assertIs(is_steady(MIXED, (other, blind, deaf, idle_one)), False, other)
        for thing in (steady[:3], steady + (idle_one,), (), first) + OTHER_THINGS:
            self.assertIs(is_steady(MIXED, thing), False)

    def test_is_play(self):
        cells = row(1, Fraction(-1, 2))
        clock = ((table((1,), (2,)), ((),), (), ()),)
        is_none_spoiled(self, is_play, MIXED, played(MIXED, cells, clock, 2))
        is_none_spoiled(self, is_play, MIXED, ((cells,), ()))
        self.assertIs(asked(self, is_play, LONE, (table((1,), (2,), (4,)), ((), ()))), True)
        rows, doings = played(MIXED, cells, clock, 2)
        for thing in (
            (rows, doings[:1]), (rows[:2], doings), ((), ()), (rows,), (rows, doings, ()), ((), doings), (rows[1:], doings),
            (rows[:2] + (row(9, 9),), doings), ((row(9, 9),) + rows[1:], doings), (rows, doings[::-1]),
            (rows[:2] + (row(1),), doings), (rows, (doings[0], ())), (table((1,)), ()), ((), ((),)),
            ((row(1, 2, 3),), ()), (cells, ()),
        ) + OTHER_THINGS:
            self.assertIs(is_play(MIXED, thing), False, thing)
        self.assertIs(is_play(LONE, (table((1,), (3,)), ((),))), False)

    def test_plays_by_any_moves(self):
        die = dice(9)
        for _ in range(20):
            plant = some_plant(die, die.randint(1, 3), die.randint(0, 3))
            rows, doings = [some_row(die, len(plant[0]))], []
            for _ in range(die.randint(0, 4)):
                doings.append(tuple(some_row(die, len(levers)) for levers, _ in plant[1]))
                self.assertIs(is_moves(plant, doings[-1]), True)
                rows.append(row(*own_ticked(plant, numbers(rows[-1]), [numbers(own) for own in doings[-1]])))
            self.assertIs(asked(self, is_play, plant, (tuple(rows), tuple(doings))), True)
            off = tuple((part[0] + part[1], part[1]) for part in rows[-1])
            self.assertIs(is_play(plant, (tuple(rows[:-1]) + (off,), tuple(doings))), len(rows) == 1)


class Ticks(unittest.TestCase):
    def test_seen_and_ticked(self):
        self.assertEqual(asked(self, seen, LONE, row(3)), ())
        self.assertEqual(asked(self, ticked, LONE, row(3), ()), row(6))
        self.assertEqual(asked(self, seen, MIXED, row(1, 2)), (row(2), (), row(-1, 2), ()))
        die = dice(91)
        for _ in range(40):
            plant = some_plant(die, die.randint(1, 4), die.randint(0, 3), most=3)
            cells = some_row(die, len(plant[0]))
            told = tuple(row(*own) for own in own_seen(plant, numbers(cells)))
            self.assertEqual(asked(self, seen, plant, cells), told)
            moves = tuple(some_row(die, len(levers)) for levers, _ in plant[1])
            told = own_ticked(plant, numbers(cells), [numbers(own) for own in moves])
            self.assertEqual(asked(self, ticked, plant, cells, moves), row(*told))

    def test_played(self):
        die = dice(92)
        for _ in range(40):
            plant = some_plant(die, die.randint(1, 3), die.randint(0, 3))
            cells = some_row(die, len(plant[0]))
            clock = tuple(some_rules(die, plant) for _ in range(die.randint(0, 4)))
            for ticks in (0, 1, 3, 6):
                found = asked(self, played, plant, cells, clock, ticks)
                self.assertEqual(found, own_played(plant, numbers(cells), clock, ticks))
                self.assertIs(is_play(plant, found), True)
                self.assertEqual(asked(self, idled, plant, cells, ticks), own_played(plant, numbers(cells), (), ticks))
            self.assertEqual(played(plant, cells, clock, 0), ((cells,), ()))
        self.assertEqual(len(idled(LONE, row(1), 40)[0]), 41)
        self.assertEqual(idled(LONE, row(1), 40)[0][-1], row(2 ** 40))

    def test_idle_moves_stand_in_the_play(self):
        told = (row(0, 0), row(0), (), ())
        self.assertEqual(idled(MIXED, row(0, 0), 2), ((row(0, 0),) * 3, (told, told)))

    def test_steadied(self):
        die = dice(93)
        for _ in range(40):
            plant = some_plant(die, die.randint(1, 3), die.randint(0, 3))
            cells, steady = some_row(die, len(plant[0])), some_steady(die, plant)
            self.assertIs(is_steady(plant, steady), True)
            for ticks in (0, 1, 4):
                found = asked(self, steadied, plant, cells, steady, ticks)
                self.assertEqual(found, own_steadied(plant, numbers(cells), steady, ticks))
                self.assertIs(is_play(plant, found), True)

    def test_steady_without_memories_is_a_rule_for_ever(self):
        die = dice(94)
        for _ in range(20):
            plant = some_plant(die, die.randint(1, 3), die.randint(0, 3))
            cells, steady = some_row(die, len(plant[0])), some_steady(die, plant, most=0)
            rules = tuple(program[3] for program in steady)
            self.assertEqual(steadied(plant, cells, steady, 5), played(plant, cells, (rules,) * 5, 5))

    def test_shown_along(self):
        die = dice(95)
        for _ in range(20):
            plant = some_plant(die, die.randint(1, 3), die.randint(0, 3))
            cells, reading = some_row(die, len(plant[0])), some_row(die, len(plant[0]))
            play = idled(plant, cells, die.randint(0, 4))
            told = [own_shown(numbers(reading), numbers(held)) for held in play[0]]
            self.assertEqual(asked(self, shown_along, reading, play), row(*told))


class Together(unittest.TestCase):
    def test_apart(self):
        die = dice(96)
        for _ in range(30):
            plant = some_plant(die, die.randint(1, 3), die.randint(0, 3))
            cells, start = some_row(die, len(plant[0])), some_row(die, len(plant[0]))
            more = row(*[a + b for a, b in zip(numbers(cells), numbers(start))])
            ticks = die.randint(0, 4)
            clock = tuple(some_rules(die, plant) for _ in range(3))
            one, other = played(plant, cells, clock, ticks), played(plant, more, clock, ticks)
            # The difference is the play from the DIFFERENCE, whatever the first cells are.
            self.assertEqual(asked(self, apart, one, other), played(plant, start, clock, ticks)[0])
            steady = some_steady(die, plant)
            both = steadied(plant, cells, steady, ticks), steadied(plant, more, steady, ticks)
            self.assertEqual(apart(*both), steadied(plant, start, steady, ticks)[0])
            self.assertIs(asked(self, all_together, plant, one, other), True)
            self.assertIs(all_together(plant, *both), True)
            refused(self, Unfit, {}, apart, one, idled(plant, cells, ticks + 1))

    def test_go_together(self):
        plant = (table((0, 0), (0, 0)), ((table((0, 1)), table((1, 0))), (table((1, 0)), ()), ((), table((0, 1)))))
        none, one = row(0), row(1)
        still = ((none, none, ()), (none, none, ()), (none, none, ()))

        def play(cells, *doings):
            rows = [cells]
            for moves in doings:
                rows.append(ticked(plant, rows[-1], moves))
            return tuple(rows), doings

        ahead = play(row(1, 0), *still)
        for cells, doings, told in (
            (row(1, 0), still, (True, True, True)),
            # Hand 0 sees something else at once: so it may do what it likes.
            (row(2, 0), ((one, none, ()),) + still[1:], (True, True, True)),
            # It sees the same at tick 0, so it moves alike there.
            (row(1, 5), ((one, none, ()),) + still[1:], (False, True, True)),
            # The blind hand 1 always moves alike, whatever the cells are.
            (row(2, 0), (still[0], still[1], (none, one, ())), (True, False, True)),
            (row(1, 0), ((none, one, ()), (one, none, ()), (one, none, ())), (True, False, True)),
            # Hand 0 sees the same again at tick 2, but what it has seen is not the same.
            (row(1, 0), ((none, one, ()), still[1], (one, none, ())), (True, False, True)),
            (row(1, 0), (still[0], (one, none, ()), still[2]), (False, True, True)),
            (row(1, 0), (still[0], still[1], (one, none, ())), (False, True, True)),
        ):
            behind = play(cells, *doings)
            self.assertIs(is_play(plant, behind), True)
            found = tuple(asked(self, go_together, plant, hand, ahead, behind) for hand in range(3))
            self.assertEqual(found, told)
            self.assertIs(asked(self, all_together, plant, ahead, behind), all(told))
            self.assertEqual(tuple(go_together(plant, hand, behind, ahead) for hand in range(3)), told)

    def test_rules_of_one_tick(self):
        plant = (table((0,)), ((table((1,)), table((1,))), (table((1,)), table((2,)))))
        for rules in all_rules(plant):
            for others in all_rules(plant):
                for start in (0, 1):
                    one, other = played(plant, row(start), (rules,), 1), played(plant, row(start), (others,), 1)
                    for hand in (0, 1):
                        told = rules[hand] == others[hand] or start == 0
                        self.assertIs(go_together(plant, hand, one, other), told)

    def test_programs_that_make_both(self):
        die = dice(97)
        kinds = [0, 0]
        for _ in range(400):
            plant = some_plant(die, 2, die.randint(0, 2), most=1, low=0, high=1, bottoms=(1,))
            plays = []
            for _ in range(2):
                rows, doings = [some_row(die, 2, low=0, high=1, bottoms=(1,))], []
                for _ in range(3):
                    doings.append(tuple(some_row(die, len(own[0]), low=0, high=1, bottoms=(1,)) for own in plant[1]))
                    rows.append(ticked(plant, rows[-1], doings[-1]))
                plays.append((tuple(rows), tuple(doings)))
            told = [self.has_program(plant, hand, plays) for hand in range(len(plant[1]))]
            self.assertEqual([go_together(plant, hand, *plays) for hand in range(len(plant[1]))], told)
            self.assertIs(all_together(plant, *plays), all(told))
            kinds[all(told)] += 1
        self.assertGreater(min(kinds), 40)

    def has_program(self, plant, hand, plays):
        """Whether one program does in both plays what the hand does, by all that it saw so far."""
        program = {}
        for rows, doings in plays:
            shown_so_far = ()
            for cells, moves in zip(rows, doings):
                shown_so_far += (tuple(own_seen(plant, numbers(cells))[hand]),)
                if program.setdefault(shown_so_far, moves[hand]) != moves[hand]:
                    return False
        return True

    def test_errors_in_their_order(self):
        one, other = idled(MIXED, row(1, 1), 1), idled(MIXED, row(1, 1), 2)
        for hand in (4, -1, 99):
            refused(self, NoHand, {"hand": hand}, go_together, MIXED, hand, one, other)
            refused(self, NoHand, {"hand": hand}, go_together, MIXED, hand, one, one)
        for hand in range(4):
            refused(self, Unfit, {}, go_together, MIXED, hand, one, other)
        refused(self, Unfit, {}, all_together, MIXED, other, one)
        refused(self, Unfit, {}, apart, one, other)
        lone = idled(LONE, row(1), 1), idled(LONE, row(1), 0)
        refused(self, Unfit, {}, all_together, LONE, *lone)
        refused(self, NoHand, {"hand": 0}, go_together, LONE, 0, *lone)
        self.assertIs(asked(self, all_together, LONE, lone[0], idled(LONE, row(7), 1)), True)

    def test_plays_of_one_cells(self):
        one, other = idled(MIXED, row(1, 1), 0), idled(MIXED, row(3, 0), 0)
        self.assertEqual(asked(self, apart, one, other), (row(2, -1),))
        self.assertIs(asked(self, all_together, MIXED, one, other), True)


if __name__ == "__main__":
    unittest.main()

"""What stays in sight [13]."""

import unittest
from fractions import Fraction
from itertools import combinations

from handsunread.errors import NoHand, Unfit
from handsunread.plants import whole
from handsunread.plays import apart, played
from handsunread.polys import divided, divides, greatest_common, is_poly, is_tone, table_poly
from handsunread.sight import (
    closed_lots, in_sight, is_closed, lot_from, lots_showing, moved_by, next_in_sight, part_in_sight, sight, sight_poly,
    sight_spaces, sight_table, unseen_beside,
)
from handsunread.spaces import is_space, over, rest_of, whole_space
from handsunread.sure import is_sure
from handsunread.tables import applied
from tests.own import (
    asked, dice, great_row, great_table, number_rows, numbers, own_applied, own_in, own_kept, own_product, own_rank,
    own_reach, own_run, own_shown, own_table_poly, own_within, poly, refused, rooted, row, some_row, some_rules,
    table,
)
from tests.test_learn import plants_of
from tests.test_plants import LONE, MIXED
from tests.test_plays import some_steady

# One hand moves and is blind, the other one sees it and has no lever.
PAIR = (table((2, 0), (1, 3)), ((table((1, 0)), ()), ((), table((0, 1)))))
# No lever comes to cell 1.
MILL = (table((2, 1), (0, 3)), ((table((1, 0)), table((1, 0))),))


def all_lots(plant):
    hands = range(len(plant[1]))
    return sorted(lot for many in range(len(plant[1]) + 1) for lot in combinations(hands, many))


def own_closed(plant, lot):
    none = row(*[0] * len(plant[0]))
    between = own_reach(plant, none, none)[1]
    return not any(between[hand][other] for hand in lot for other in range(len(plant[1])) if other not in lot)


def own_moved(plant, lot):
    """Rows of which moved has all sums."""
    return own_kept(plant, [lever for hand in lot for lever in number_rows(plant[1][hand][0])])


def own_reads(plant, lot):
    """Rows of the form of READINGS: unseen is what all of them show 0 of."""
    rows = [list(column) for column in zip(*number_rows(plant[0]))]
    found = []
    for hand, (_, gauges) in enumerate(plant[1]):
        for gauge in number_rows(gauges) if hand not in lot else ():
            for _ in range(len(plant[0])):
                found.append(gauge)
                gauge = own_applied(rows, gauge)
    return found


def own_steady_whole(plant, steady):
    """The table by which the cells and then the memories of all hands go on."""
    many, begins = len(plant[0]), []
    for program in steady:
        begins.append(many)
        many += len(program[0])
    found = [numbers(line) + [Fraction(0)] * (many - len(plant[0])) for line in plant[0]]
    found += [[Fraction(0)] * many for _ in range(many - len(plant[0]))]
    for (levers, gauges), (keeps, hears, tells, rule), begin in zip(plant[1], steady, begins):
        for at, lever in enumerate(number_rows(levers)):
            for cell, much in enumerate(lever):
                for place, gauge in enumerate(number_rows(gauges)):
                    for other, shown in enumerate(gauge):
                        found[cell][other] += much * numbers(rule[at])[place] * shown
                for place in range(len(keeps)):
                    found[cell][begin + place] += much * numbers(tells[at])[place]
        for memory in range(len(keeps)):
            for place in range(len(keeps)):
                found[begin + memory][begin + place] += numbers(keeps[memory])[place]
            for place, gauge in enumerate(number_rows(gauges)):
                for other, shown in enumerate(gauge):
                    found[begin + memory][other] += numbers(hears[memory])[place] * shown
    return found


class Lots(unittest.TestCase):
    def test_spaces_of_any_lot(self):
        kinds = set()
        for _, plant, _, _ in plants_of(150, 40):
            long = len(plant[0])
            for lot in all_lots(plant):
                moved, unseen = asked(self, moved_by, plant, lot), asked(self, unseen_beside, plant, lot)
                self.assertTrue(is_space(moved, long) and is_space(unseen, long))
                self.assertTrue(own_within(own_moved(plant, lot), number_rows(moved)))
                self.assertEqual(len(moved), own_rank(own_moved(plant, lot)))
                reads = own_reads(plant, lot)
                self.assertFalse(any(own_shown(one, cells) for one in reads for cells in number_rows(unseen)))
                self.assertEqual(len(unseen) + own_rank(reads), long)
                # A lot is closed exactly if moved lies within unseen.
                closed = own_within(number_rows(moved), number_rows(unseen))
                self.assertEqual(closed, own_closed(plant, lot))
                self.assertIs(asked(self, is_closed, plant, lot), closed)
                kinds.add((closed, len(moved), len(unseen), long))
        self.assertGreater(len(kinds), 12)

    def test_closed_lots(self):
        many = set()
        for _, plant, _, _ in plants_of(151, 50, most_hands=4):
            told = [lot for lot in all_lots(plant) if own_closed(plant, lot)]
            self.assertEqual(asked(self, closed_lots, plant), told)
            self.assertIn((), told)
            self.assertIn(tuple(range(len(plant[1]))), told)
            for lot in all_lots(plant):
                above = [other for other in told if set(lot) <= set(other)]
                least = min(above, key=len)
                self.assertEqual([other for other in above if len(other) == len(least)], [least])
                self.assertEqual(asked(self, lot_from, plant, lot), least)
            for lot in told:
                for other in told:
                    self.assertIn(tuple(sorted(set(lot) | set(other))), told)
                    self.assertIn(tuple(sorted(set(lot) & set(other))), told)
                    if set(lot) <= set(other):
                        for space in (moved_by, unseen_beside):
                            self.assertTrue(own_within(number_rows(space(plant, lot)), number_rows(space(plant, other))))
            many.add(len(told))
        self.assertGreaterEqual(len(many), 4)

    def test_edges(self):
        self.assertEqual(asked(self, closed_lots, LONE), [()])
        self.assertEqual(asked(self, lot_from, LONE, ()), ())
        self.assertEqual(asked(self, moved_by, LONE, ()), ())
        self.assertEqual(asked(self, unseen_beside, LONE, ()), table((1,)))
        self.assertIs(asked(self, is_closed, LONE, ()), True)
        self.assertEqual(moved_by(MIXED, (2, 3)), ())
        self.assertEqual(moved_by(MIXED, (1,)), table((1, 0), (0, 1)))
        self.assertEqual(unseen_beside(MIXED, (0, 2)), table((1, 0), (0, 1)))
        self.assertEqual(unseen_beside(MIXED, (2,)), table((1, 0)))
        self.assertEqual(unseen_beside(MIXED, ()), ())
        self.assertIs(is_closed(MIXED, (2,)), True)
        self.assertIs(is_closed(MIXED, (0,)), False)
        self.assertEqual(lot_from(MIXED, (1, 3)), (0, 1, 2, 3))
        self.assertEqual(lot_from(MIXED, (0,)), (0, 2))
        self.assertEqual(lot_from(MIXED, (2, 3)), (2, 3))
        found = closed_lots(MIXED)
        found.clear()
        self.assertIn((), closed_lots(MIXED))

    def test_no_hands(self):
        for lot, wrong in (((4,), 4), ((0, 9), 9), ((-1, 0), -1), ((-3, 7), -3), ((0, 10 ** 20), 10 ** 20)):
            for function, arguments in (
                (moved_by, ()), (unseen_beside, ()), (is_closed, ()), (lot_from, ()), (sight_spaces, ()), (sight_table, ()),
                (sight_poly, ()), (part_in_sight, (row(1, 1),)), (next_in_sight, ((),)),
            ):
                # (0, ..) is not closed: NoHand comes ahead of that.
                refused(self, NoHand, {"hand": wrong}, function, MIXED, lot, *arguments)
        refused(self, NoHand, {"hand": 0}, moved_by, LONE, (0,))
        refused(self, NoHand, {"hand": 0}, sight_table, LONE, (0,))


class Sight(unittest.TestCase):
    def test_lots_that_are_not_closed(self):
        for plant, lot in ((PAIR, (0,)), (MIXED, (0,)), (MIXED, (1,)), (MIXED, (0, 3)), (MIXED, (1, 2))):
            long = len(plant[0])
            for function, arguments in (
                (sight_spaces, ()), (sight_table, ()), (sight_poly, ()), (part_in_sight, (row(*[1] * long),)),
                (part_in_sight, (row(*[0] * long),)), (next_in_sight, ((),)),
            ):
                refused(self, Unfit, {}, function, plant, lot, *arguments)

    def test_of_closed_lots(self):
        kinds = set()
        for _, plant, _, _ in plants_of(152, 50):
            long, rows = len(plant[0]), number_rows(plant[0])
            for lot in closed_lots(plant):
                unseen, readings = asked(self, sight_spaces, plant, lot)
                moved = number_rows(moved_by(plant, lot))
                self.assertEqual(unseen, unseen_beside(plant, lot))
                self.assertTrue(is_space(readings, long))
                self.assertEqual(len(readings) + len(moved), long)
                self.assertFalse(any(own_shown(one, cells) for one in number_rows(readings) for cells in moved))
                found = asked(self, sight_table, plant, lot)
                rest = number_rows(rest_of(unseen, moved_by(plant, lot)))
                self.assertEqual((len(found), [len(line) for line in found]), (len(rest), [len(rest)] * len(rest)))
                self.assertEqual(len(rest), len(unseen) - len(moved))
                for column, cells in enumerate(rest):
                    left = own_applied(rows, cells)
                    for line, other in zip(number_rows(found), rest):
                        left = [value - line[column] * more for value, more in zip(left, other)]
                    self.assertTrue(own_in(moved, left))
                one = asked(self, sight_poly, plant, lot)
                self.assertEqual(one, row(*own_table_poly(number_rows(found))))
                kinds.add((len(rest), len(moved), long, len(lot)))
        self.assertGreater(len(kinds), 15)

    def test_all_together(self):
        kinds = set()
        for _, plant, _, _ in plants_of(153, 50):
            found, polys = asked(self, sight, plant), [sight_poly(plant, lot) for lot in closed_lots(plant)]
            self.assertTrue(is_poly(found) and found[-1] == (1, 1))
            self.assertTrue(all(divides(one, found) for one in polys))
            # Nothing less is a multiple of them all: what is left of it by each one has nothing in common.
            self.assertEqual(greatest_common([divided(found, one)[0] for one in polys]), poly(1))
            for tone in (rooted(1), rooted(0), rooted(2, 1), rooted(-1, 3), poly(1, 0, 1), poly(-2, 0, 1), found):
                if is_tone(tone):
                    showing = [
                        lot for lot, one in zip(closed_lots(plant), polys) if len(greatest_common((one, tone))) > 1
                    ]
                    self.assertEqual(asked(self, lots_showing, plant, tone), showing)
                    self.assertIs(asked(self, in_sight, plant, tone), bool(showing))
            kinds.add(found)
        self.assertGreater(len(kinds), 15)

    def test_it_stays(self):
        # It divides the poly of the whole of RULES, and of STEADY of whatever memory.
        great = 0
        for die, plant, _, _ in plants_of(154, 40):
            found = sight(plant)
            self.assertTrue(divides(found, table_poly(whole(plant, some_rules(die, plant)))))
            steady = some_steady(die, plant)
            self.assertTrue(divides(found, row(*own_table_poly(own_steady_whole(plant, steady)))))
            great += len(found) > 1
        self.assertGreater(great, 10)

    def test_two_plays_beside(self):
        # They differ by what they would if all were idle, but for something moved.
        many = 0
        for die, plant, _, _ in plants_of(155, 40):
            cells = some_row(die, len(plant[0]))
            for lot in closed_lots(plant):
                moved = number_rows(moved_by(plant, lot))
                for start in unseen_beside(plant, lot):
                    more = row(*[one + other for one, other in zip(numbers(cells), numbers(start))])
                    clock = tuple(some_rules(die, plant) for _ in range(6))
                    differ = apart(played(plant, cells, clock, 7), played(plant, more, clock, 7))
                    for one, other in zip(differ, own_run(plant, numbers(start), 8)):
                        self.assertTrue(own_in(moved, [value - by for value, by in zip(numbers(one), other)]))
                    many += bool(moved)
        self.assertGreater(many, 10)

    def test_sure_by_closed_lots(self):
        kinds = set()
        for _, plant, start, reading in plants_of(156, 60):
            told = any(
                own_in(number_rows(unseen_beside(plant, lot)), numbers(start))
                and not any(own_shown(numbers(reading), cells) for cells in number_rows(moved_by(plant, lot)))
                for lot in closed_lots(plant)
            )
            self.assertIs(is_sure(plant, start, reading), told)
            kinds.add((told, len(plant[1])))
        self.assertGreaterEqual(len(kinds), 6)

    def test_edges(self):
        self.assertEqual(asked(self, sight, LONE), rooted(2))
        self.assertEqual(asked(self, sight_spaces, LONE, ()), (whole_space(1), whole_space(1)))
        self.assertEqual(asked(self, sight_table, LONE, ()), LONE[0])
        self.assertIs(asked(self, in_sight, LONE, rooted(2, 2, 5)), True)
        self.assertEqual(asked(self, lots_showing, LONE, rooted(2, 2, 5)), [()])
        self.assertIs(in_sight(LONE, rooted(1)), False)
        self.assertEqual(asked(self, sight_table, MIXED, ()), ())
        self.assertEqual(asked(self, sight_poly, MIXED, ()), poly(1))
        self.assertEqual(asked(self, sight_table, MIXED, (0, 1, 2, 3)), ())
        self.assertEqual(asked(self, lots_showing, MIXED, rooted(1)), [(2,), (2, 3)])
        self.assertEqual(asked(self, lots_showing, MIXED, rooted(Fraction(1, 2))), [])
        self.assertEqual(sight(MILL), rooted(3))
        self.assertEqual(sight(PAIR), rooted(2, 3))
        # Without hands all is in sight, a factor as often as it is there.
        same = (table((5, 0), (0, 5)), ())
        self.assertEqual((sight(same), sight_table(same, ())), (rooted(5, 5), same[0]))
        self.assertEqual(sight((same[0], (((), ()),) * 3)), rooted(5, 5))
        self.assertEqual(lots_showing((same[0], (((), ()),) * 2), rooted(5)), [(), (0,), (0, 1), (1,)])

    def test_great_numbers(self):
        die = dice(157)
        plant = (great_table(die, 5, 5), ((great_table(die, 1, 5), ()), ((), great_table(die, 1, 5))))
        self.assertEqual(asked(self, sight, plant), table_poly(plant[0]))
        start = great_row(die, 5)
        self.assertEqual(asked(self, part_in_sight, plant, (1,), start), start)


class Parts(unittest.TestCase):
    def test_parts(self):
        kinds = set()
        for die, plant, start, _ in plants_of(158, 60):
            rows = number_rows(plant[0])
            for lot in closed_lots(plant):
                unseen, moved = number_rows(unseen_beside(plant, lot)), number_rows(moved_by(plant, lot))
                rest = number_rows(rest_of(unseen_beside(plant, lot), moved_by(plant, lot)))
                if not own_in(unseen, numbers(start)):
                    refused(self, Unfit, {}, part_in_sight, plant, lot, start)
                    kinds.add(None)
                much = numbers(some_row(die, len(unseen)))
                cells = [sum((a * line[at] for a, line in zip(much, unseen)), Fraction(0)) for at in range(len(plant[0]))]
                found = asked(self, part_in_sight, plant, lot, row(*cells))
                self.assertEqual(len(found), len(rest))
                left = cells
                for part, line in zip(numbers(found), rest):
                    left = [value - part * more for value, more in zip(left, line)]
                self.assertTrue(own_in(moved, left))
                coming = asked(self, next_in_sight, plant, lot, found)
                self.assertEqual(coming, part_in_sight(plant, lot, row(*own_applied(rows, cells))))
                self.assertEqual(coming, applied(sight_table(plant, lot), found))
                # Something moved more changes nothing of it.
                for line in moved:
                    more = [value + 3 * other for value, other in zip(cells, line)]
                    self.assertEqual(part_in_sight(plant, lot, row(*more)), found)
                kinds.add((len(found), len(moved)))
        self.assertGreater(len(kinds), 8)

    def test_edges(self):
        self.assertEqual(asked(self, part_in_sight, MILL, (), row(0, 0)), ())
        self.assertEqual(asked(self, next_in_sight, MILL, (), ()), ())
        self.assertEqual(asked(self, part_in_sight, LONE, (), row(7)), row(7))
        self.assertEqual(asked(self, next_in_sight, LONE, (), row(Fraction(1, 2))), row(1))
        self.assertEqual(asked(self, next_in_sight, MIXED, (2,), row(Fraction(1, 3))), row(Fraction(1, 3)))
        refused(self, Unfit, {}, part_in_sight, MILL, (), row(1, 0))
        refused(self, Unfit, {}, part_in_sight, MIXED, (2,), row(1, 1))
        refused(self, Unfit, {}, part_in_sight, MIXED, (0,), row(0, 0))

    def test_polys_multiply(self):
        # The poly of what is moved, of the sight and of what is left of all make that of the table.
        for _, plant, _, _ in plants_of(159, 40):
            for lot in closed_lots(plant):
                moved, unseen = moved_by(plant, lot), unseen_beside(plant, lot)
                parts = [over(plant[0], moved, ()), over(plant[0], whole_space(len(plant[0])), unseen)]
                found = numbers(sight_poly(plant, lot))
                for part in parts:
                    found = own_product(found, own_table_poly(number_rows(part)))
                self.assertEqual(found, own_table_poly(number_rows(plant[0])))


if __name__ == "__main__":
    unittest.main()

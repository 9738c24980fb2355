"""Spaces [5]."""

import unittest
from fractions import Fraction

from handsunread.errors import Unfit
from handsunread.polys import poly_product, table_poly
from handsunread.spaces import (
    is_kept, is_off_space, is_space, kept_in, kept_with, led, led_into, meet, off_space, over, rest_of, shares, span,
    sum_space, whole_space, within, zeros_of,
)
from handsunread.tables import applied, is_table, rank, same_table, turned
from tests.own import (
    NO_FRACTIONS, OTHER_THINGS, asked, dice, great_row, great_table, is_none_spoiled, number_rows, numbers,
    own_applied, own_in, own_rank, own_shown, own_within, refused, row, some_row, some_table, table,
)


def some_space(die, long):
    """A SPACE of ROWS of this length, () and the whole one among them."""
    return span(some_table(die, die.randint(0, long), long, low=-1, high=1))


def kept_by_chance(die, table_of, long):
    return kept_with(table_of, some_table(die, die.randint(0, 2), long, low=-1, high=1))


def alike(case, space, rows):
    """The SPACE is that of all sums of these rows of Fractions."""
    case.assertTrue(own_within(number_rows(space), rows))
    case.assertTrue(own_within(rows, number_rows(space)))


class IsSpace(unittest.TestCase):
    def test_spaces(self):
        is_none_spoiled(self, is_space, table((1, 0, Fraction(1, 2)), (0, 1, -3)), 3)
        is_none_spoiled(self, is_space, table((0, 0, 1)), 3)
        self.assertIs(asked(self, is_space, (), 1), True)
        self.assertIs(asked(self, is_space, (), 12), True)
        self.assertIs(asked(self, is_space, table((1, 5, 0, 2), (0, 0, 1, 7)), 4), True)
        self.assertIs(is_space(same_table(40), 40), True)
        self.assertIs(is_space(table((1, 10 ** 90)), 2), True)

    def test_no_spaces(self):
        for thing in (
            table((2, 0)), table((0, 0)), table((0, 1), (1, 0)), table((1, 1), (0, 1)), table((1, 0), (1, 0)),
            table((1, 0), (0, 0)), table((1, 0), (0, -1)), table((1, 0), (0, 1), (0, 0)), table((1, 0, 0)),
            table((1,), (1,)), (row(1, 0), row(0, 1, 0)), [row(1, 0)], ((),), ((), ()),
        ) + OTHER_THINGS:
            self.assertIs(is_space(thing, 2), False, thing)
        for part in NO_FRACTIONS:
            self.assertIs(is_space((((1, 1), part),), 2), False)
        self.assertIs(is_space(table((1, 0)), 1), False)
        self.assertIs(is_space(table((1, 0)), 3), False)

    def test_just_one_is_reduced(self):
        die = dice(5)
        for _ in range(80):
            long = die.randint(1, 3)
            thing = some_table(die, die.randint(0, 3), long, low=0, high=1)
            self.assertIs(is_space(thing, long), span(thing) == thing)


class OneSpace(unittest.TestCase):
    def test_span(self):
        die = dice(51)
        self.assertEqual(asked(self, span, ()), ())
        self.assertEqual(asked(self, span, table((0, 0))), ())
        for _ in range(80):
            long, many = die.randint(1, 4), die.randint(1, 4)
            rows = some_table(die, many, long, low=-1, high=2)
            space = asked(self, span, rows)
            self.assertIs(is_space(space, long), True)
            alike(self, space, number_rows(rows))
            self.assertEqual(len(space), own_rank(number_rows(rows)))
            # Other rows with the same sums have the same SPACE.
            mixed = tuple(applied(turned(rows), some_row(die, many)) for _ in range(3)) + rows[::-1]
            self.assertEqual(span(mixed), space)

    def test_whole_space(self):
        for long in range(1, 5):
            self.assertEqual(asked(self, whole_space, long), same_table(long))

    def test_zeros_of(self):
        die = dice(52)
        self.assertEqual(asked(self, zeros_of, (), 3), same_table(3))
        self.assertEqual(asked(self, zeros_of, same_table(2), 2), ())
        self.assertEqual(asked(self, zeros_of, table((0, 0)), 2), same_table(2))
        for _ in range(80):
            long = die.randint(1, 4)
            rows = some_table(die, die.randint(0, 4), long, low=-1, high=1)
            found = asked(self, zeros_of, rows, long)
            self.assertIs(is_space(found, long), True)
            for line in rows:
                self.assertEqual(own_applied(number_rows(found), numbers(line)), [0] * len(found))
            self.assertEqual(len(found) + own_rank(number_rows(rows)), long)
            if rows:
                self.assertEqual(len(found) + rank(rows), long)
            self.assertEqual(zeros_of(found, long), span(rows))

    def test_shares_and_off_space(self):
        die = dice(53)
        kinds = [0, 0]
        self.assertEqual(asked(self, shares, (), row(0, 0)), ())
        self.assertIsNone(asked(self, shares, (), row(0, 3)))
        self.assertIsNone(asked(self, off_space, (), row(0, 0)))
        for _ in range(120):
            long = die.randint(1, 4)
            space, cells = some_space(die, long), some_row(die, long, low=-1, high=1)
            if die.randint(0, 1) and space:
                cells = applied(turned(space), some_row(die, len(space)))
            is_in = own_in(number_rows(space), numbers(cells))
            found, away = asked(self, shares, space, cells), asked(self, off_space, space, cells)
            self.assertEqual((found is not None, away is not None), (is_in, not is_in))
            if is_in:
                kinds[0] += 1
                self.assertEqual(len(found), len(space))
                sums = [own_shown(numbers(found), column) for column in zip(*number_rows(space))]
                self.assertEqual(sums or [0] * long, numbers(cells))
                for other in (cells, some_row(die, long), space[0] if space else cells):
                    self.assertIs(is_off_space(space, cells, other), False)
            else:
                kinds[1] += 1
                self.assertEqual(own_applied(number_rows(space), numbers(away)), [0] * len(space))
                self.assertEqual(own_shown(numbers(away), numbers(cells)), 1)
                is_none_spoiled(self, is_off_space, space, cells, away)
        self.assertGreater(min(kinds), 20)

    def test_any_that_is_off_is_one(self):
        space = table((1, 2, 0))
        for thing in (row(-2, 1, 0), row(-2, 1, 7)):
            self.assertIs(asked(self, is_off_space, space, row(1, 3, 0), thing), True)
        for thing in (row(-4, 2, 0), row(0, 1, 0), row(-2, 1), row(-2, 1, 0, 0), (), row(0, 0, 0)) + OTHER_THINGS:
            self.assertIs(is_off_space(space, row(1, 3, 0), thing), False)
        self.assertIs(is_off_space((), row(1, 3), row(1, 0)), True)
        for part in NO_FRACTIONS:
            self.assertIs(is_off_space((), row(1, 0), ((1, 1), part)), False)

    def test_rows_that_hardly_differ(self):
        near = span(table((1, 10 ** 40)))
        self.assertEqual(shares(near, row(Fraction(1, 10 ** 6), 10 ** 34)), row(Fraction(1, 10 ** 6)))
        self.assertIsNone(shares(near, row(Fraction(1, 10 ** 6), 10 ** 34 + 1)))
        self.assertEqual(len(span(table((1, 10 ** 40), (Fraction(1, 10 ** 6), 10 ** 34 + 1)))), 2)
        away = off_space(near, row(1, 10 ** 40 - 1))
        self.assertEqual(away, row(10 ** 40, -1))


class TwoSpaces(unittest.TestCase):
    def test_within_sum_meet(self):
        die = dice(54)
        for _ in range(100):
            long = die.randint(1, 4)
            one, other = some_space(die, long), some_space(die, long)
            first, second = number_rows(one), number_rows(other)
            self.assertIs(asked(self, within, one, other), own_within(first, second))
            both, common = asked(self, sum_space, one, other), asked(self, meet, one, other)
            self.assertTrue(is_space(both, long) and is_space(common, long))
            alike(self, both, first + second)
            self.assertTrue(own_within(number_rows(common), first) and own_within(number_rows(common), second))
            self.assertEqual(len(both) + len(common), len(one) + len(other))
            self.assertIs(within(zeros_of(other, long), zeros_of(one, long)), within(one, other))
            self.assertEqual((meet(other, one), sum_space(other, one)), (common, both))
            self.assertTrue(within(common, one) and within(one, both))

    def test_edges(self):
        whole, line = whole_space(3), span(table((1, 2, 3)))
        for one, other, is_within, both, common in (
            ((), (), True, (), ()), ((), line, True, line, ()), (line, (), False, line, ()),
            (line, whole, True, whole, line), (whole, line, False, whole, line), (whole, whole, True, whole, whole),
            (line, line, True, line, line),
        ):
            self.assertIs(asked(self, within, one, other), is_within)
            self.assertEqual(asked(self, sum_space, one, other), both)
            self.assertEqual(asked(self, meet, one, other), common)


class Led(unittest.TestCase):
    def test_led_and_led_into(self):
        die = dice(55)
        for _ in range(80):
            long = die.randint(1, 4)
            one, space = some_table(die, long, long, low=-1, high=1), some_space(die, long)
            own = number_rows(one)
            found = asked(self, led, one, space)
            self.assertIs(is_space(found, long), True)
            alike(self, found, [own_applied(own, line) for line in number_rows(space)])
            back = asked(self, led_into, one, space)
            self.assertIs(is_space(back, long), True)
            for line in number_rows(back):
                self.assertTrue(own_in(number_rows(space), own_applied(own, line)))
            # Of what leads to 0 nothing is left out, nor of what leads into the SPACE else.
            image = [own_applied(own, line) for line in number_rows(same_table(long))]
            both = len(space) + own_rank(image) - own_rank(number_rows(space) + image)
            self.assertEqual(len(back), long - own_rank(own) + both)
            self.assertIs(asked(self, is_kept, one, space), own_within(number_rows(found), number_rows(space)))
            self.assertIs(is_kept(turned(one), zeros_of(space, long)), is_kept(one, space))

    def test_edges(self):
        flat = table((1, 2), (2, 4))
        self.assertEqual(asked(self, led, flat, ()), ())
        self.assertEqual(asked(self, led, flat, whole_space(2)), table((1, 2)))
        self.assertEqual(asked(self, led_into, flat, ()), table((1, Fraction(-1, 2))))
        self.assertEqual(asked(self, led_into, flat, whole_space(2)), whole_space(2))
        self.assertIs(asked(self, is_kept, flat, ()), True)
        self.assertIs(asked(self, is_kept, flat, whole_space(2)), True)
        self.assertIs(asked(self, is_kept, flat, table((1, 2))), True)
        self.assertIs(asked(self, is_kept, flat, table((1, 0))), False)


class Kept(unittest.TestCase):
    def test_kept_with(self):
        die = dice(56)
        for _ in range(80):
            long = die.randint(1, 4)
            one = some_table(die, long, long, low=-1, high=1)
            rows = some_table(die, die.randint(0, 2), long, low=-1, high=1)
            own, lines = number_rows(one), number_rows(rows)
            found = asked(self, kept_with, one, rows)
            # So many ticks lead to all that comes.
            all_lines = []
            for line in lines:
                for _ in range(long):
                    all_lines.append(line)
                    line = own_applied(own, line)
            alike(self, found, all_lines)
            self.assertTrue(is_space(found, long) and is_kept(one, found))

    def test_kept_in(self):
        die = dice(57)
        for _ in range(80):
            long = die.randint(1, 4)
            one, space = some_table(die, long, long, low=-1, high=1), some_space(die, long)
            if die.randint(0, 1):
                space = sum_space(space, kept_by_chance(die, one, long))
            found = asked(self, kept_in, one, space)
            self.assertTrue(is_space(found, long) and is_kept(one, found) and within(found, space))
            # By the tests' own sums: what stays in the SPACE for so many ticks stays in it for ever.
            walls = number_rows(zeros_of(space, long))
            readings = []
            for wall in walls:
                for _ in range(long):
                    readings.append(wall)
                    wall = own_applied(list(zip(*number_rows(one))), wall)
            self.assertEqual(len(found), long - own_rank(readings))
            self.assertEqual(zeros_of(found, long), kept_with(turned(one), zeros_of(space, long)))

    def test_kept_ones_give_kept_ones(self):
        die = dice(58)
        for _ in range(40):
            long = die.randint(2, 4)
            one = some_table(die, long, long, low=0, high=1)
            first, second = kept_by_chance(die, one, long), kept_by_chance(die, one, long)
            self.assertTrue(is_kept(one, sum_space(first, second)) and is_kept(one, meet(first, second)))

    def test_edges(self):
        step = table((0, 1), (0, 0))
        self.assertEqual(asked(self, kept_with, step, ()), ())
        self.assertEqual(asked(self, kept_with, step, table((0, 0))), ())
        self.assertEqual(asked(self, kept_with, step, table((0, 2))), whole_space(2))
        self.assertEqual(asked(self, kept_in, step, whole_space(2)), whole_space(2))
        self.assertEqual(asked(self, kept_in, step, ()), ())
        self.assertEqual(asked(self, kept_in, step, table((0, 1))), ())
        self.assertEqual(asked(self, kept_with, table((5,)), table((3,))), table((1,)))

    def test_great_ones(self):
        die = dice(59)
        one, cells = great_table(die, 8, 8), great_row(die, 8)
        self.assertEqual(kept_with(one, (cells,)), whole_space(8))
        self.assertEqual(kept_in(one, span((cells,))), ())


class Over(unittest.TestCase):
    def test_rest_of(self):
        die = dice(60)
        kinds = [0, 0]
        for _ in range(80):
            long = die.randint(1, 4)
            outer, inner = some_space(die, long), some_space(die, long)
            if die.randint(0, 1):
                outer = sum_space(outer, inner)
            if own_within(number_rows(inner), number_rows(outer)):
                found = asked(self, rest_of, outer, inner)
                taken = [next(at for at, part in enumerate(line) if part[0]) for line in inner]
                told = tuple(
                    line for line in outer if next(at for at, part in enumerate(line) if part[0]) not in taken
                )
                self.assertEqual(found, told)
                self.assertEqual(span(found + inner), outer)
                kinds[0] += 1
            else:
                refused(self, Unfit, {}, rest_of, outer, inner)
                refused(self, Unfit, {}, over, same_table(long), outer, inner)
                kinds[1] += 1
        self.assertGreater(min(kinds), 10)

    def test_over(self):
        die = dice(61)
        for _ in range(80):
            long = die.randint(1, 4)
            one = some_table(die, long, long, low=-1, high=1)
            inner = kept_by_chance(die, one, long)
            outer = sum_space(inner, kept_by_chance(die, one, long))
            rest = rest_of(outer, inner)
            found = asked(self, over, one, outer, inner)
            self.assertIs(is_table(found, len(rest), len(rest)), True)
            own = number_rows(one)
            for place, line in enumerate(number_rows(rest)):
                # What is left of what comes next, all that the column tells taken off, is in inner.
                left = own_applied(own, line)
                for much, other in zip([numbers(parts)[place] for parts in found], number_rows(rest)):
                    left = [a - much * b for a, b in zip(left, other)]
                self.assertTrue(own_in(number_rows(inner), left))

    def test_the_poly_is_parted(self):
        die = dice(62)
        for _ in range(60):
            long = die.randint(1, 4)
            one = some_table(die, long, long, low=-1, high=1)
            inner = kept_by_chance(die, one, long)
            parts = over(one, inner, ()), over(one, whole_space(long), inner)
            self.assertEqual(poly_product([table_poly(part) for part in parts]), table_poly(one))

    def test_errors_and_edges(self):
        step = table((0, 1, 0), (0, 0, 1), (0, 0, 0))
        first, last, whole = table((1, 0, 0)), table((0, 0, 1)), whole_space(3)
        self.assertEqual(asked(self, over, step, (), ()), ())
        self.assertEqual(asked(self, over, step, first, first), ())
        self.assertEqual(asked(self, over, step, whole, whole), ())
        self.assertEqual(asked(self, over, step, whole, ()), step)
        self.assertEqual(asked(self, rest_of, whole, ()), whole)
        self.assertEqual(asked(self, rest_of, (), ()), ())
        refused(self, Unfit, {}, rest_of, first, last)
        refused(self, Unfit, {}, rest_of, (), first)
        refused(self, Unfit, {}, over, step, first, last)
        refused(self, Unfit, {}, over, step, last, ())
        refused(self, Unfit, {}, over, step, last, last)
        refused(self, Unfit, {}, over, step, whole, last)
        refused(self, Unfit, {}, over, step, sum_space(first, last), first)


if __name__ == "__main__":
    unittest.main()

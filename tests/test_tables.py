"""Tables [4]."""

import unittest
from fractions import Fraction
from itertools import combinations

from handsunread.errors import NoNumber, Unfit
from handsunread.tables import (
    against, applied, det, inverse, is_against, is_solved, is_table, leading, minor, power, product, rank, read_by,
    same_table, shown, solved, sum_table, times_much, turned,
)
from tests.own import (
    NO_FRACTIONS, OTHER_THINGS, asked, dice, great_row, great_table, is_none_spoiled, lists_within, number,
    number_rows, numbers, own_applied, own_det, own_rank, own_shown, own_times, pair, refused, row, some_row,
    some_table, table,
)


def packed(rows):
    return table(*rows)


class IsTable(unittest.TestCase):
    def test_tables(self):
        is_none_spoiled(self, is_table, table((1, Fraction(-1, 2), 0), (0, 0, 10 ** 40)), 2, 3)
        is_none_spoiled(self, is_table, table((7,)), 1, 1)
        for thing, many, long in ((((),), 1, 0), (((), ()), 2, 0), ((), 0, 0), ((), 0, 5)):
            self.assertIs(asked(self, is_table, thing, many, long), True)

    def test_beyond_all_bounds(self):
        great = ((10 ** 90, 10 ** 80 + 1),) * 30
        self.assertIs(is_table((great,) * 40, 40, 30), True)

    def test_other_sizes(self):
        thing = table((1, 2, 3), (4, 5, 6))
        for many, long in ((3, 2), (2, 2), (1, 3), (2, 4), (0, 3), (0, 0), (3, 3)):
            self.assertIs(is_table(thing, many, long), False)
        self.assertIs(is_table((), 1, 1), False)
        self.assertIs(is_table((), 1, 0), False)
        self.assertIs(is_table(((),), 0, 0), False)
        self.assertIs(is_table((row(1, 2), row(1)), 2, 2), False)
        self.assertIs(is_table((row(1), row(1, 2)), 2, 1), False)
        self.assertIs(is_table((row(1), row(1), row(1)), 2, 1), False)

    def test_no_tables(self):
        for thing in OTHER_THINGS + (row(1, 2), [row(1)], ([(1, 1)],), (("1",),)):
            self.assertIs(is_table(thing, 1, 1), False)
            self.assertIs(is_table(thing, 2, 2), False)
        for part in NO_FRACTIONS:
            self.assertIs(is_table(((part,),), 1, 1), False, part)
            self.assertIs(is_table((((1, 1), part), row(1, 2)), 2, 2), False, part)


class Sums(unittest.TestCase):
    def test_same_table(self):
        self.assertEqual(asked(self, same_table, 0), ())
        self.assertEqual(asked(self, same_table, 1), table((1,)))
        self.assertEqual(asked(self, same_table, 3), table((1, 0, 0), (0, 1, 0), (0, 0, 1)))

    def test_one_cell(self):
        third, two = table((Fraction(1, 3),)), table((2,))
        self.assertEqual(asked(self, sum_table, third, two), table((Fraction(7, 3),)))
        self.assertEqual(asked(self, times_much, third, (-3, 1)), table((-1,)))
        self.assertEqual(asked(self, times_much, third, (0, 1)), table((0,)))
        self.assertEqual(asked(self, turned, third), third)
        self.assertEqual(asked(self, shown, third[0], two[0]), (2, 3))
        self.assertEqual(asked(self, applied, third, two[0]), row(Fraction(2, 3)))
        self.assertEqual(asked(self, read_by, two[0], third), row(Fraction(2, 3)))
        self.assertEqual(asked(self, product, third, third), table((Fraction(1, 9),)))
        self.assertEqual(asked(self, power, third, 3), table((Fraction(1, 27),)))
        self.assertEqual(asked(self, power, third, 0), table((1,)))

    def test_of_many(self):
        die = dice(4)
        for _ in range(60):
            many, long, wide = die.randint(1, 4), die.randint(1, 4), die.randint(1, 4)
            one, other, behind = some_table(die, many, long), some_table(die, many, long), some_table(die, long, wide)
            first, second, third = number_rows(one), number_rows(other), number_rows(behind)
            self.assertEqual(
                asked(self, sum_table, one, other),
                packed([[a + b for a, b in zip(line, more)] for line, more in zip(first, second)]),
            )
            much = some_row(die, 1)[0]
            self.assertEqual(
                asked(self, times_much, one, much), packed([[number(much) * a for a in line] for line in first])
            )
            self.assertEqual(asked(self, turned, one), packed(list(zip(*first))))
            cells, reading = some_row(die, long), some_row(die, many)
            self.assertEqual(asked(self, shown, cells, one[0]), pair(own_shown(numbers(cells), first[0])))
            self.assertEqual(asked(self, applied, one, cells), row(*own_applied(first, numbers(cells))))
            self.assertEqual(
                asked(self, read_by, reading, one), row(*own_applied(list(zip(*first)), numbers(reading)))
            )
            self.assertEqual(asked(self, product, one, behind), packed(own_times(first, third)))

    def test_what_is_read_is_what_comes(self):
        die = dice(41)
        for _ in range(30):
            long = die.randint(1, 4)
            one, cells, reading = some_table(die, long, long), some_row(die, long), some_row(die, long)
            self.assertEqual(shown(read_by(reading, one), cells), shown(reading, applied(one, cells)))

    def test_power(self):
        die = dice(42)
        for _ in range(12):
            long = die.randint(1, 3)
            one = some_table(die, long, long)
            found = number_rows(same_table(long))
            for many in range(6):
                self.assertEqual(asked(self, power, one, many), packed(found))
                found = own_times(number_rows(one), found)
        step = table((1, 1), (0, 1))
        self.assertEqual(asked(self, power, step, 40), table((1, 40), (0, 1)))
        self.assertEqual(power(table((0, 1), (0, 0)), 2), table((0, 0), (0, 0)))

    def test_great_numbers(self):
        die = dice(43)
        one, other, cells = great_table(die, 12, 12), great_table(die, 12, 12), great_row(die, 12)
        self.assertEqual(product(one, other), packed(own_times(number_rows(one), number_rows(other))))
        self.assertEqual(applied(one, cells), row(*own_applied(number_rows(one), numbers(cells))))
        self.assertEqual(product(one, inverse(one)), same_table(12))
        self.assertEqual(product(power(one, 2), one), power(one, 3))


class Ranks(unittest.TestCase):
    def test_named_edges(self):
        self.assertEqual(asked(self, det, ()), (1, 1))
        self.assertEqual(asked(self, minor, table((1, 2), (3, 4)), (), ()), (1, 1))
        self.assertEqual(asked(self, det, table((Fraction(-2, 5),))), (-2, 5))
        self.assertEqual(asked(self, rank, table((0,))), 0)
        self.assertEqual(asked(self, leading, table((0, 0), (0, 0))), ())
        self.assertEqual(asked(self, rank, table((0,), (2,))), 1)
        self.assertEqual(asked(self, leading, table((0, 0, 5), (0, 3, 1))), (1, 2))

    def test_of_many(self):
        die = dice(44)
        for _ in range(120):
            many, long = die.randint(1, 4), die.randint(1, 4)
            one = some_table(die, many, long, low=-1, high=1)
            own = number_rows(one)
            self.assertEqual(asked(self, rank, one), own_rank(own))
            self.assertEqual(rank(turned(one)), rank(one))
            found = asked(self, leading, one)
            # A column leads just if with those ahead it has a greater rank.
            ranks = [own_rank([line[:place] for line in own]) if place else 0 for place in range(long + 1)]
            self.assertEqual(found, tuple(place for place in range(long) if ranks[place + 1] > ranks[place]))
            square = some_table(die, many, many, low=-1, high=2)
            self.assertEqual(asked(self, det, square), pair(own_det(number_rows(square))))
            other = some_table(die, many, many)
            self.assertEqual(number(det(product(square, other))), number(det(square)) * number(det(other)))

    def test_a_row_that_has_to_move_up(self):
        for own in ([[0, 1], [1, 0]], [[0, 0, 1], [1, 0, 0], [0, 1, 0]], [[0, 0, 1], [0, 1, 0], [1, 0, 0]],
                    [[0, 2, 1, 0], [0, 0, 0, 3], [0, 0, 5, 1], [7, 1, 1, 1]]):
            self.assertEqual(det(table(*own)), pair(own_det([[Fraction(a) for a in line] for line in own])))

    def test_minor(self):
        die = dice(45)
        for _ in range(20):
            many, long = die.randint(1, 3), die.randint(1, 4)
            one = some_table(die, many, long)
            own = number_rows(one)
            for size in range(min(many, long) + 1):
                for lines in combinations(range(many), size):
                    for places in combinations(range(long), size):
                        told = own_det([[own[line][place] for place in places] for line in lines])
                        self.assertEqual(minor(one, lines, places), pair(told))
            lines = tuple(range(min(many, long)))
            self.assertEqual(asked(self, minor, one, lines, lines), pair(own_det([line[:len(lines)] for line in own[:len(lines)]])))

    def test_minor_errors(self):
        one = table((1, 2, 3), (4, 5, 6))
        for rows, columns, wrong in (
            ((0, 2), (0, 1), 2), ((-1, 0), (0, 1), -1), ((-2, 7), (-1, 9), -2), ((0, 5), (-1, 1), 5),
            ((0, 1), (1, 3), 3), ((0, 1), (-3, 9), -3), ((2,), (0,), 2), ((1,), (3,), 3), ((0, 2), (1, 2), 2),
        ):
            refused(self, NoNumber, {"number": wrong}, minor, one, rows, columns)
        self.assertEqual(minor(one, (0, 1), (1, 2)), (-3, 1))

    def test_the_rank_is_the_greatest_minor(self):
        die = dice(46)
        for _ in range(30):
            many, long = die.randint(1, 3), die.randint(1, 3)
            one = some_table(die, many, long, low=-1, high=1)
            found = [
                size for size in range(min(many, long) + 1) for lines in combinations(range(many), size)
                for places in combinations(range(long), size) if minor(one, lines, places) != (0, 1)
            ]
            self.assertEqual(rank(one), max(found))

    def test_rows_that_hardly_differ(self):
        near = table((1, 10 ** 40), (Fraction(1, 10 ** 6), 10 ** 34))
        self.assertEqual((rank(near), det(near)), (1, (0, 1)))
        apart = table((1, 10 ** 40), (Fraction(1, 10 ** 6), 10 ** 34 + 1))
        self.assertEqual((rank(apart), det(apart)), (2, (1, 1)))
        third = table((Fraction(1, 999999), Fraction(1, 999998)), (Fraction(1, 999998), Fraction(1, 999997)))
        self.assertEqual((rank(third), leading(third)), (2, (0, 1)))
        self.assertEqual(det(third), pair(own_det(number_rows(third))))

    def test_great_ones(self):
        die = dice(47)
        one = great_table(die, 5, 5)
        self.assertEqual(det(one), pair(own_det(number_rows(one))))
        wide = great_table(die, 12, 12)
        mixed = wide[:11] + (sum_table((wide[3],), (wide[8],))[0],)
        self.assertEqual((rank(wide), rank(mixed), det(mixed)), (12, 11, (0, 1)))


class Inverses(unittest.TestCase):
    def test_of_many(self):
        die = dice(48)
        kinds = [0, 0]
        for _ in range(80):
            many = die.randint(1, 4)
            one = some_table(die, many, many, low=-1, high=2)
            if own_det(number_rows(one)):
                found = asked(self, inverse, one)
                self.assertEqual(own_times(number_rows(found), number_rows(one)), number_rows(same_table(many)))
                self.assertEqual(inverse(found), one)
                kinds[0] += 1
            else:
                refused(self, Unfit, {}, inverse, one)
                kinds[1] += 1
        self.assertGreater(min(kinds), 5)

    def test_one_cell(self):
        self.assertEqual(asked(self, inverse, table((Fraction(-3, 7),))), table((Fraction(-7, 3),)))
        refused(self, Unfit, {}, inverse, table((0,)))
        refused(self, Unfit, {}, inverse, table((1, 10 ** 40), (Fraction(1, 10 ** 6), 10 ** 34)))


class Solutions(unittest.TestCase):
    def test_exactly_one_of_both(self):
        die = dice(49)
        kinds = [0, 0]
        for _ in range(150):
            many, long = die.randint(1, 4), die.randint(1, 4)
            one, cells = some_table(die, many, long, low=-1, high=1), some_row(die, many)
            own = number_rows(one)
            within = own_rank([line + [more] for line, more in zip(own, numbers(cells))]) == own_rank(own)
            found, against_it = asked(self, solved, one, cells), asked(self, against, one, cells)
            self.assertFalse(lists_within((found, against_it)))
            self.assertEqual((found is not None, against_it is not None), (within, not within))
            if within:
                self.assertEqual(own_applied(own, numbers(found)), numbers(cells))
                is_none_spoiled(self, is_solved, one, cells, found)
                self.assertIs(is_against(one, cells, found), False)
                kinds[0] += 1
            else:
                self.assertEqual(own_shown(numbers(against_it), numbers(cells)), 1)
                self.assertEqual(own_applied(list(zip(*own)), numbers(against_it)), [0] * long)
                is_none_spoiled(self, is_against, one, cells, against_it)
                self.assertIs(is_solved(one, cells, against_it), False)
                kinds[1] += 1
        self.assertGreater(min(kinds), 20)

    def test_any_that_is_so_is_one(self):
        flat = table((1, 2, 0), (2, 4, 0), (0, 0, 5))
        for thing in (row(3, 0, 1), row(1, 1, 1), row(0, Fraction(3, 2), 1), row(-1, 2, 1)):
            self.assertIs(asked(self, is_solved, flat, row(3, 6, 5), thing), True)
        for thing in (row(3, 0, 2), row(3, 1, 1), row(3, 0), row(3, 0, 1, 0), (), None, row(6, 0, 2)):
            self.assertIs(is_solved(flat, row(3, 6, 5), thing), False)
        for thing in (row(-2, 1, 0), ):
            self.assertIs(asked(self, is_against, flat, row(3, 7, 5), thing), True)
        for thing in (row(-4, 2, 0), row(-2, 1, 1), row(-2, 1), row(-2, 1, 0, 0), row(0, 0, 0), (), None):
            self.assertIs(is_against(flat, row(3, 7, 5), thing), False)
        tall = table((1,), (1,), (1,))
        for thing in (row(0, -1, 1), row(Fraction(-1, 2), Fraction(-1, 2), 1), row(1, -2, 1)):
            self.assertIs(is_against(tall, row(0, 0, 1), thing), True)

    def test_no_things(self):
        for thing in OTHER_THINGS:
            self.assertIs(is_solved(table((1,)), row(1), thing), False)
            self.assertIs(is_against(table((0,)), row(1), thing), False)
        self.assertIs(is_solved(table((1,)), row(1), ((True, 1),)), False)
        self.assertIs(is_against(table((0,)), row(1), ((1, True),)), False)

    def test_rows_that_hardly_differ(self):
        near = table((1, 10 ** 40), (Fraction(1, 10 ** 6), 10 ** 34))
        self.assertIsNone(solved(near, row(1, 0)))
        self.assertIsNone(against(near, row(10 ** 6, 1)))
        apart = table((1, 10 ** 40), (Fraction(1, 10 ** 6), 10 ** 34 + 1))
        self.assertEqual(solved(apart, row(1, 0)), row(1 + 10 ** 34, -Fraction(1, 10 ** 6)))

    def test_great_ones(self):
        die = dice(50)
        one, cells = great_table(die, 12, 12), great_row(die, 12)
        self.assertEqual(applied(one, solved(one, cells)), cells)
        self.assertIsNone(against(one, cells))
        tall = great_table(die, 12, 4)
        self.assertIsNone(solved(tall, cells))
        self.assertIs(is_against(tall, cells, against(tall, cells)), True)


if __name__ == "__main__":
    unittest.main()

"""Polynomials [6]."""

import unittest
from fractions import Fraction

from handsunread.errors import Unfit
from handsunread.polys import (
    at_table, common_paper, divided, divides, each_once, goes_by, greatest_common, how_often, is_common_paper, is_poly,
    is_tone, least_common, least_poly, monic, poly_product, poly_sum, shown_poly, shown_row, table_poly, value_at,
    without_factors,
)
from handsunread.tables import inverse, product, same_table
from tests.own import (
    NO_FRACTIONS, OTHER_THINGS, asked, dice, great_row, great_table, is_none_spoiled, number, number_rows,
    numbers, own_applied, own_at, own_product, own_rank, own_shown, own_sum, own_table_poly, own_times,
    pair, poly, refused, rooted, row, some_row, some_table, spoiled, table,
)


def some_poly(die, degree):
    """A POLY of at most this degree, () among them."""
    return poly(*numbers(some_row(die, die.randint(0, degree + 1))))


def full_poly(die, degree):
    found = some_poly(die, degree)
    return found if found else poly(1)


def some_roots(die, most):
    return [die.choice((-1, 0, 1, 2, Fraction(1, 2))) for _ in range(die.randint(0, most))]


def own_put(values, rows):
    """The numbers of a POLY times the powers of the table, added up."""
    power = number_rows(same_table(len(rows)))
    found = [[Fraction(0)] * len(rows) for _ in rows]
    for value in values:
        found = [[a + value * b for a, b in zip(line, more)] for line, more in zip(found, power)]
        power = own_times(power, rows)
    return found


def own_least_degree(rows):
    """Of the POLYS but () that annul the table."""
    lines, power = [], number_rows(same_table(len(rows)))
    while True:
        lines.append([value for line in power for value in line])
        if own_rank_of_long(lines) < len(lines):
            return len(lines) - 1
        power = own_times(power, rows)


def own_rank_of_long(lines):
    """The rank by clearing, for rows too long for minors."""
    work, found = [list(line) for line in lines], 0
    for column in range(len(lines[0])):
        pivots = [line for line in work if line[column]]
        if pivots:
            pivot, found = pivots[0], found + 1
            work = [line for line in work if line is not pivot]
            work = [[a - line[column] / pivot[column] * b for a, b in zip(line, pivot)] for line in work]
    return found


class IsPoly(unittest.TestCase):
    def test_polys(self):
        self.assertIs(asked(self, is_poly, ()), True)
        for thing in (poly(1), poly(0, 1), poly(0, 0, Fraction(-2, 3)), poly(*range(1, 60)), poly(10 ** 90)):
            self.assertIs(asked(self, is_poly, thing), True)
        is_none_spoiled(self, is_poly, poly(1, Fraction(1, 2), -3))
        for thing in (((0, 1),), row(1, 0), row(0, 0), row(1, 2, 0)) + OTHER_THINGS[:-2]:
            self.assertIs(is_poly(thing), False, thing)
        for part in NO_FRACTIONS:
            self.assertIs(is_poly((part,)), False)
            self.assertIs(is_poly((part, (1, 1))), False)

    def test_tones(self):
        for thing in (poly(0, 1), poly(-2, 1), poly(1, 0, 1), rooted(*range(30)), row(Fraction(1, 10 ** 50), 1)):
            self.assertIs(asked(self, is_tone, thing), True)
        is_none_spoiled(self, is_tone, poly(Fraction(1, 2), 3, 1))
        for thing in ((), poly(1), poly(2), poly(1, 2), poly(1, -1), row(1, 0), row(1, 1, 0)) + OTHER_THINGS:
            self.assertIs(asked(self, is_tone, thing), False, thing)
        for part in NO_FRACTIONS:
            self.assertIs(is_tone((part, (1, 1))), False)


class Sums(unittest.TestCase):
    def test_sums_and_products(self):
        die = dice(6)
        self.assertEqual(asked(self, poly_sum, ()), ())
        self.assertEqual(asked(self, poly_product, ()), poly(1))
        self.assertEqual(asked(self, poly_sum, ((), ())), ())
        self.assertEqual(asked(self, poly_product, (poly(1, 2), ())), ())
        self.assertEqual(asked(self, poly_sum, (poly(1, 2), poly(3, -2))), poly(4))
        for _ in range(60):
            polys = tuple(some_poly(die, 4) for _ in range(die.randint(0, 3)))
            total, times = [], [Fraction(1)]
            for one in polys:
                total, times = own_sum(total, numbers(one)), own_product(times, numbers(one))
            self.assertEqual(asked(self, poly_sum, polys), row(*total))
            self.assertEqual(asked(self, poly_product, polys), row(*times))

    def test_value_and_monic(self):
        die = dice(61)
        self.assertEqual(asked(self, value_at, (), (5, 1)), (0, 1))
        self.assertEqual(asked(self, value_at, poly(7), (5, 2)), (7, 1))
        self.assertEqual(asked(self, monic, ()), ())
        self.assertEqual(asked(self, monic, poly(-3)), poly(1))
        for _ in range(40):
            one, at = some_poly(die, 5), some_row(die, 1)[0]
            self.assertEqual(asked(self, value_at, one, at), pair(own_at(numbers(one), number(at))))
            found = asked(self, monic, one)
            if one:
                self.assertEqual(numbers(found), [value / number(one[-1]) for value in numbers(one)])

    def test_divided(self):
        die = dice(62)
        for _ in range(100):
            one, other = some_poly(die, 5), full_poly(die, 3)
            times, rest = asked(self, divided, one, other)
            self.assertTrue(is_poly(times) and is_poly(rest))
            self.assertEqual(row(*own_sum(own_product(numbers(times), numbers(other)), numbers(rest))), one)
            self.assertLess(len(rest), len(other))
            self.assertIs(asked(self, divides, other, one), not rest)
            refused(self, Unfit, {}, divided, one, ())

    def test_divides(self):
        for one, other, told in (
            ((), (), True), ((), poly(1), False), (poly(5), (), True), (poly(0, 1), (), True), (poly(2), poly(7), True),
            (poly(1, 1), poly(1), False), (poly(2, 2), rooted(-1, 3), True), (rooted(1, 1), rooted(1, 2), False),
            (rooted(1, 2), rooted(1), False),
        ):
            self.assertIs(asked(self, divides, one, other), told)

    def test_how_often(self):
        die = dice(63)
        for _ in range(60):
            roots = some_roots(die, 5)
            one = poly_product((rooted(*roots), poly(die.choice((1, -2, Fraction(3, 5))))))
            for root in (-1, 0, 1, 2, Fraction(1, 2)):
                self.assertEqual(asked(self, how_often, rooted(root), one), roots.count(root))
            self.assertEqual(how_often(rooted(0, 1), one), min(roots.count(0), roots.count(1)))
            self.assertEqual(how_often(rooted(1, 1), one), roots.count(1) // 2)
            self.assertEqual(how_often(poly(1, 0, 1), one), 0)
        refused(self, Unfit, {}, how_often, rooted(1), ())


class Common(unittest.TestCase):
    def test_of_told_factors(self):
        die = dice(64)
        for _ in range(80):
            lots = [some_roots(die, 4) for _ in range(die.randint(1, 3))]
            polys = tuple(poly_product((rooted(*roots), poly(die.choice((1, -2, Fraction(1, 3)))))) for roots in lots)
            all_roots = (-1, 0, 1, 2, Fraction(1, 2))
            low = [root for root in all_roots for _ in range(min(roots.count(root) for roots in lots))]
            high = [root for root in all_roots for _ in range(max(roots.count(root) for roots in lots))]
            self.assertEqual(asked(self, greatest_common, polys), rooted(*low))
            self.assertEqual(asked(self, least_common, polys), rooted(*high))
            self.assertEqual(greatest_common(polys + ((),)), rooted(*low))
            self.assertEqual(least_common(polys + ((),)), ())

    def test_edges(self):
        self.assertEqual(asked(self, greatest_common, ()), ())
        self.assertEqual(asked(self, greatest_common, ((), ())), ())
        self.assertEqual(asked(self, greatest_common, (poly(0, 3),)), poly(0, 1))
        self.assertEqual(asked(self, greatest_common, ((), poly(5))), poly(1))
        self.assertEqual(asked(self, least_common, ()), poly(1))
        self.assertEqual(asked(self, least_common, ((),)), ())
        self.assertEqual(asked(self, least_common, (poly(4), poly(-3))), poly(1))

    def test_factors_that_are_no_numbers(self):
        both = poly(2, 0, 1)
        one, other = poly_product((both, rooted(1))), poly_product((both, poly(1, 1, 1)))
        self.assertEqual(greatest_common((one, other)), both)
        self.assertEqual(least_common((one, other)), poly_product((one, poly(1, 1, 1))))
        # By the rests of division by great numbers these two would look alike.
        for prime in (2, 3, 5, 7, 2 ** 31 - 1, 2305843009213693951):
            self.assertEqual(greatest_common((poly(1, 1), poly(1 + prime, 1))), poly(1))
            self.assertEqual(greatest_common((poly(1, prime), poly(1, prime, 1))), poly(1))
            steep = poly(1, prime)
            for one, other in ((rooted(1), rooted(2)), (rooted(1, 3), poly(1, 0, 1)), (poly(1), poly(2, 0, 1))):
                first, second = poly_product((steep, one)), poly_product((steep, other))
                self.assertEqual(greatest_common((first, second)), poly(Fraction(1, prime), 1))
                self.assertEqual(greatest_common((first, other)), greatest_common((one, other)))
                self.assertEqual(greatest_common((other, first)), greatest_common((one, other)))

    def test_papers(self):
        die = dice(65)
        for _ in range(80):
            shared = some_poly(die, 1)
            one, other = poly_product((some_poly(die, 3), shared)), poly_product((some_poly(die, 3), shared))
            near, far = asked(self, common_paper, one, other)
            found = own_sum(own_product(numbers(near), numbers(one)), own_product(numbers(far), numbers(other)))
            self.assertEqual(row(*found), greatest_common((one, other)))
            is_none_spoiled(self, is_common_paper, one, other, (near, far))
            more = some_poly(die, 3)
            others = (
                poly_sum((near, poly_product((more, other)))), poly_sum((far, poly_product((more, one, poly(-1))))),
            )
            self.assertIs(asked(self, is_common_paper, one, other, others), True)

    def test_no_papers(self):
        one, other = poly(-1, 1), poly(1, 1)
        half = poly(Fraction(1, 2))
        self.assertIs(is_common_paper(one, other, (poly(Fraction(-1, 2)), half)), True)
        for thing in (
            (half, half), (half,), (poly(Fraction(-1, 2)), half, ()), ((), ()), (poly(-1), poly(1)), half,
            (poly(Fraction(-1, 2)), row(Fraction(1, 2), 0)),
        ) + OTHER_THINGS:
            self.assertIs(is_common_paper(one, other, thing), False, thing)
        self.assertIs(asked(self, is_common_paper, (), (), ((), ())), True)
        self.assertIs(is_common_paper((), (), (poly(1, 2, 3), poly(4))), True)
        self.assertIs(is_common_paper((), (), (poly(1), ())), True)

    def test_each_once_and_without(self):
        die = dice(66)
        for _ in range(60):
            roots, others = some_roots(die, 5), some_roots(die, 3)
            one = poly_product((rooted(*roots), poly(die.choice((1, -2, Fraction(3, 5))))))
            other = poly_product((rooted(*others), poly(die.choice((1, 3)))))
            self.assertEqual(asked(self, each_once, one), rooted(*sorted(set(roots))))
            left = [root for root in roots if root not in others]
            self.assertEqual(asked(self, without_factors, one, other), rooted(*left))
        ring = poly(1, 0, 1)
        self.assertEqual(each_once(poly_product((ring, ring, ring, rooted(2)))), poly_product((ring, rooted(2))))
        self.assertEqual(without_factors(poly_product((ring, ring, rooted(2))), ring), rooted(2))
        self.assertEqual(asked(self, each_once, poly(-7)), poly(1))
        self.assertEqual(asked(self, without_factors, poly(-7), rooted(1)), poly(1))
        self.assertEqual(asked(self, without_factors, rooted(1, 1), poly(3)), rooted(1, 1))
        refused(self, Unfit, {}, each_once, ())
        refused(self, Unfit, {}, without_factors, (), rooted(1))
        refused(self, Unfit, {}, without_factors, rooted(1), ())
        refused(self, Unfit, {}, without_factors, (), ())

    def test_great_ones(self):
        die = dice(67)
        one, other, both = great_row(die, 5), great_row(die, 5), great_row(die, 3)
        first, second = poly_product((one, both)), poly_product((other, both))
        self.assertEqual(greatest_common((first, second)), monic(both))
        self.assertIs(is_common_paper(first, second, common_paper(first, second)), True)
        self.assertEqual(each_once(poly_product((first, both))), monic(first))


class OfTables(unittest.TestCase):
    def test_the_table_without_places(self):
        self.assertEqual(asked(self, table_poly, ()), poly(1))
        self.assertEqual(asked(self, at_table, poly(1, 2), ()), ())
        self.assertEqual(asked(self, at_table, (), ()), ())
        self.assertEqual(asked(self, least_poly, ()), poly(1))
        self.assertEqual(asked(self, shown_row, (), (), (), 3), row(0, 0, 0))
        self.assertEqual(asked(self, shown_poly, (), (), ()), poly(1))

    def test_table_poly(self):
        die = dice(68)
        for _ in range(60):
            many = die.randint(1, 4)
            one = some_table(die, many, many)
            self.assertEqual(asked(self, table_poly, one), row(*own_table_poly(number_rows(one))))
        self.assertEqual(table_poly(table((Fraction(2, 3),))), poly(Fraction(-2, 3), 1))

    def test_at_table(self):
        die = dice(69)
        for _ in range(40):
            many = die.randint(1, 3)
            one, values = some_table(die, many, many), some_poly(die, 4)
            self.assertEqual(asked(self, at_table, values, one), table(*own_put(numbers(values), number_rows(one))))
            annulled = table(*[[0] * many for _ in range(many)])
            self.assertEqual(at_table(table_poly(one), one), annulled)
            self.assertEqual(at_table((), one), annulled)

    def test_least_poly(self):
        die = dice(70)
        kinds = {}
        for _ in range(100):
            many = die.randint(1, 4)
            # Often the same number on the diagonal, so that less is enough.
            one = [[Fraction(0)] * many for _ in range(many)]
            for place in range(many):
                one[place][place] = Fraction(die.choice((0, 2)))
                if place and not die.randint(0, 2):
                    one[place - 1][place] = Fraction(1)
            moved = some_table(die, many, many, low=-1, high=1)
            if own_rank(number_rows(moved)) == many:
                one = number_rows(product(product(moved, table(*one)), inverse(moved)))
            found = asked(self, least_poly, table(*one))
            self.assertEqual(at_table(found, table(*one)), table(*[[0] * many for _ in range(many)]))
            self.assertEqual((len(found) - 1, found[-1]), (own_least_degree(one), (1, 1)))
            poly_of_it = table_poly(table(*one))
            self.assertIs(divides(found, poly_of_it), True)
            self.assertIs(divides(poly_of_it, poly_product((found,) * many)), True)
            kinds[len(poly_of_it) - len(found)] = True
        self.assertEqual(sorted(kinds), [0, 1, 2, 3])

    def test_what_annuls_is_divided(self):
        die = dice(71)
        for _ in range(60):
            many = die.randint(1, 3)
            one, values = some_table(die, many, many, low=0, high=1, bottoms=(1,)), rooted(*some_roots(die, 4))
            annuls = not any(part[0] for line in at_table(values, one) for part in line)
            self.assertIs(divides(least_poly(one), values), annuls)

    def test_great_ones(self):
        die = dice(72)
        one = great_table(die, 12, 12)
        found = table_poly(one)
        self.assertEqual(least_poly(one), found)
        self.assertEqual(number(found[-2]), -sum(number(one[place][place]) for place in range(12)))
        start, reading = great_row(die, 12), great_row(die, 12)
        self.assertEqual(shown_poly(one, start, reading), found)
        small = great_table(die, 3, 3)
        self.assertEqual(table_poly(small), row(*own_table_poly(number_rows(small))))
        self.assertEqual(least_poly(same_table(12)), rooted(1))


class Shown(unittest.TestCase):
    def test_shown_row(self):
        die = dice(73)
        for _ in range(40):
            many, long = die.randint(1, 4), die.randint(0, 6)
            one, start, reading = some_table(die, many, many), some_row(die, many), some_row(die, many)
            cells, told = numbers(start), []
            for _ in range(long):
                told.append(own_shown(numbers(reading), cells))
                cells = own_applied(number_rows(one), cells)
            self.assertEqual(asked(self, shown_row, one, start, reading, long), row(*told))
        self.assertEqual(len(shown_row(one, start, reading, 40)), 40)

    def test_shown_poly(self):
        die = dice(74)
        kinds = {}
        for _ in range(120):
            many = die.randint(1, 4)
            one = some_table(die, many, many, low=0, high=1, bottoms=(1,))
            start, reading = some_row(die, many, low=-1, high=1), some_row(die, many, low=0, high=1)
            found = asked(self, shown_poly, one, start, reading)
            told = numbers(shown_row(one, start, reading, 2 * many + 2))
            # The least degree: as many as the rows (shown from t on) that are no sums of others.
            lines = [told[place:place + many + 1] for place in range(many + 1)]
            self.assertEqual(len(found) - 1, own_rank_of_long(lines))
            self.assertTrue(found[-1] == (1, 1) and is_poly(found))
            self.assertIs(goes_by(shown_row(one, start, reading, 40), found), True)
            self.assertIs(divides(found, least_poly(one)), True)
            kinds[len(found)] = True
            for values in (rooted(*some_roots(die, 4)), poly_product((found, full_poly(die, 2)))):
                if len(values) <= many + 1:
                    self.assertIs(goes_by(row(*told), values), divides(found, values))
        self.assertEqual(sorted(kinds), [1, 2, 3, 4, 5])

    def test_what_is_gone_behind_some_ticks(self):
        step = table((0, 1, 0), (0, 0, 1), (0, 0, 0))
        self.assertEqual(asked(self, shown_poly, step, row(0, 0, 1), row(1, 0, 0)), poly(0, 0, 0, 1))
        self.assertEqual(asked(self, shown_poly, step, row(0, 1, 0), row(1, 0, 0)), poly(0, 0, 1))
        self.assertEqual(asked(self, shown_poly, step, row(0, 1, 0), row(0, 0, 1)), poly(1))
        self.assertEqual(asked(self, shown_poly, step, row(0, 0, 0), row(1, 1, 1)), poly(1))

    def test_goes_by(self):
        die = dice(75)
        for _ in range(150):
            values, cells = full_poly(die, 3), some_row(die, die.randint(0, 5), low=-1, high=1, bottoms=(1,))
            own, held = numbers(values), numbers(cells)
            told = all(own_shown(own, held[at:at + len(own)]) == 0 for at in range(len(held) - len(own) + 1))
            self.assertIs(asked(self, goes_by, cells, values), told)
        self.assertIs(asked(self, goes_by, (), poly(3)), True)
        self.assertIs(asked(self, goes_by, row(0, 0), poly(3)), True)
        self.assertIs(asked(self, goes_by, row(0, 1), poly(3)), False)
        self.assertIs(asked(self, goes_by, row(5, 7), poly(0, 0, 1)), True)
        self.assertIs(asked(self, goes_by, row(5, 7, 1), poly(0, 0, 1)), False)
        self.assertIs(asked(self, goes_by, row(Fraction(1, 2), Fraction(1, 4)), poly(-1, 2)), True)
        refused(self, Unfit, {}, goes_by, row(1, 2), ())
        refused(self, Unfit, {}, goes_by, (), ())

    def test_spoiled_polys_are_none(self):
        for other in spoiled(rooted(1, 2)):
            self.assertIs(is_poly(other), False)


if __name__ == "__main__":
    unittest.main()

"""Tables of POLYS [7]."""

import unittest
from fractions import Fraction
from itertools import combinations

from handsunread.errors import NoNumber, Unfit
from handsunread.polys import divides, greatest_common, poly_product, poly_sum, value_at
from handsunread.ptables import brought, divisor_of_order, is_brought, is_ptable, pdet, pminor, prank, ptable_at, ptimes
from handsunread.tables import is_table, rank
from tests.own import (
    NO_FRACTIONS, OTHER_THINGS, asked, dice, great_row, is_none_spoiled, lists_within, number_rows, numbers, own_at,
    own_poly_det, own_product, own_rank, own_sum, poly, refused, rooted, row, some_row, some_table, table,
)

X, ONE = poly(0, 1), poly(1)


def some_poly(die, degree):
    return poly(*numbers(some_row(die, die.randint(0, degree + 1), low=-1, high=1)))


def some_ptable(die, many, long, degree):
    return tuple(tuple(some_poly(die, degree) for _ in range(long)) for _ in range(many))


def own_polys(ptable):
    return [[numbers(values) for values in line] for line in ptable]


def packed(rows):
    return tuple(tuple(row(*values) for values in line) for line in rows)


def own_ptimes(one, other):
    found = []
    for line in one:
        found.append([])
        for column in zip(*other):
            total = []
            for first, second in zip(line, column):
                total = own_sum(total, own_product(first, second))
            found[-1].append(total)
    return found


def some_steps(die, many, long):
    """STEPS, and by them what is not to be seen so easily: turnable ones from both sides."""
    steps = [[()] * long for _ in range(many)]
    last = ONE
    for place in range(min(many, long)):
        last = poly_product((last, rooted(*[die.choice((0, 1, -2)) for _ in range(die.choice((0, 0, 1)))])))
        steps[place][place] = last if last and die.randint(0, 5) else ()
        last = steps[place][place]
    return tuple(tuple(line) for line in steps)


def some_turnable(die, many):
    found = tuple(tuple(ONE if place == column else () for column in range(many)) for place in range(many))
    for _ in range(3 if many > 1 else 0):
        first, second = die.sample(range(many), 2)
        rows = [list(line) for line in found]
        much = some_poly(die, 1)
        rows[first] = [poly_sum((own, poly_product((much, more)))) for own, more in zip(rows[first], rows[second])]
        found = tuple(tuple(line) for line in rows)
    scale = die.choice((1, -2, Fraction(1, 3)))
    return ptimes(found, tuple(
        tuple(poly(scale if place == 0 else 1) if place == column else () for column in range(many))
        for place in range(many)
    ))


def parting_of(rows, levers, gauges):
    """x on the diagonal less the rows, levers beside, gauges below [15]."""
    many = len(rows)
    upper = [
        tuple(poly(-rows[i][j], 1) if i == j else poly(-rows[i][j]) for j in range(many))
        + tuple(poly(lever[i]) for lever in levers)
        for i in range(many)
    ]
    return tuple(upper) + tuple(tuple(poly(part) for part in gauge) + ((),) * len(levers) for gauge in gauges)


class IsPtable(unittest.TestCase):
    def test_ptables(self):
        is_none_spoiled(self, is_ptable, ((X, ()), (poly(Fraction(1, 2)), poly(1, 0, 3))))
        for thing in ((((),),), ((ONE,),), (((), ()),), (((),), ((),)), ((X,) * 30,) * 30, ((rooted(*range(40)),),)):
            self.assertIs(asked(self, is_ptable, thing), True)
        self.assertIs(is_ptable((poly(1),)), False)

    def test_no_ptables(self):
        for thing in ((), ((),), ((), ()), ((X, ONE), (X,)), ((X,), (X, ONE)), ((row(0),),), ((row(1, 0),),), (X,),
                      [(X,)], ([X],), ((list(X),),), (((), ((),)),)) + OTHER_THINGS:
            self.assertIs(is_ptable(thing), False, thing)
        for part in NO_FRACTIONS:
            self.assertIs(is_ptable((((part,),),)), False)


class Products(unittest.TestCase):
    def test_ptimes(self):
        die = dice(7)
        for _ in range(40):
            many, long, wide, other_long = [die.randint(1, 3) for _ in range(4)]
            one, other = some_ptable(die, many, long, 2), some_ptable(die, other_long, wide, 2)
            if long == other_long:
                found = asked(self, ptimes, one, other)
                self.assertEqual(found, packed(own_ptimes(own_polys(one), own_polys(other))))
                self.assertIs(is_ptable(found), True)
            else:
                refused(self, Unfit, {}, ptimes, one, other)

    def test_determinants(self):
        die = dice(71)
        for _ in range(60):
            many = die.randint(1, 3)
            one, other = some_ptable(die, many, many, 2), some_ptable(die, many, many, 2)
            self.assertEqual(asked(self, pdet, one), row(*own_poly_det(own_polys(one))))
            self.assertEqual(pdet(ptimes(one, other)), poly_product((pdet(one), pdet(other))))
        one = some_ptable(die, 4, 4, 3)
        self.assertEqual(pdet(one), row(*own_poly_det(own_polys(one))))
        self.assertEqual(asked(self, pdet, (((),),)), ())
        self.assertEqual(asked(self, pdet, ((poly(Fraction(-2, 3)),),)), poly(Fraction(-2, 3)))
        for many, long in ((1, 2), (2, 1), (2, 3), (3, 2)):
            refused(self, Unfit, {}, pdet, some_ptable(die, many, long, 1))

    def test_minors(self):
        die = dice(72)
        for _ in range(15):
            many, long = die.randint(1, 3), die.randint(1, 3)
            one = some_ptable(die, many, long, 2)
            self.assertEqual(asked(self, pminor, one, (), ()), ONE)
            for size in range(1, min(many, long) + 1):
                for lines in combinations(range(many), size):
                    for places in combinations(range(long), size):
                        told = own_poly_det([[numbers(one[line][place]) for place in places] for line in lines])
                        self.assertEqual(pminor(one, lines, places), row(*told))
            lines = tuple(range(min(many, long)))
            asked(self, pminor, one, lines, lines)

    def test_errors_of_minors(self):
        one = ((X, ONE, ()), (ONE, X, X))
        for rows, columns, wrong in (
            ((2,), (0,), 2), ((0, 2), (3,), 2), ((-1,), (0,), -1), ((0,), (3,), 3), ((0,), (-1, 7), -1), ((5,), (), 5),
            ((), (3,), 3), ((-2, 9), (-3,), -2), ((0, 1), (2, 4), 4),
        ):
            refused(self, NoNumber, {"number": wrong}, pminor, one, rows, columns)
        for rows, columns in (((0,), ()), ((), (1,)), ((0, 1), (1,)), ((0,), (0, 1))):
            refused(self, Unfit, {}, pminor, one, rows, columns)

    def test_at_a_number(self):
        die = dice(73)
        for _ in range(30):
            one, at = some_ptable(die, die.randint(1, 3), die.randint(1, 3), 3), some_row(die, 1)[0]
            found = asked(self, ptable_at, one, at)
            self.assertIs(is_table(found, len(one), len(one[0])), True)
            self.assertEqual(
                number_rows(found), [[own_at(numbers(values), Fraction(*at)) for values in line] for line in one]
            )


class Divisors(unittest.TestCase):
    def own_divisor(self, ptable, order):
        minors = []
        for lines in combinations(range(len(ptable)), order):
            for places in combinations(range(len(ptable[0])), order):
                minors.append(row(*own_poly_det([[numbers(ptable[line][place]) for place in places] for line in lines])))
        return greatest_common(minors)

    def told(self, ptable):
        """All divisors by all minors; each divides the next one; the rank by them."""
        most = min(len(ptable), len(ptable[0]))
        found = [asked(self, divisor_of_order, ptable, order) for order in range(most + 1)]
        self.assertEqual(found, [self.own_divisor(ptable, order) for order in range(most + 1)])
        self.assertEqual(found[0], ONE)
        for one, other in zip(found, found[1:]):
            self.assertIs(divides(one, other), True)
        self.assertEqual(asked(self, prank, ptable), len([values for values in found if values]) - 1)
        for order in (most + 1, most + 7):
            refused(self, Unfit, {}, divisor_of_order, ptable, order)
        return found

    def test_of_many(self):
        die = dice(74)
        for _ in range(40):
            self.told(some_ptable(die, die.randint(1, 3), die.randint(1, 3), die.randint(0, 2)))

    def test_of_steps(self):
        die = dice(75)
        kinds = {}
        for _ in range(60):
            many, long = die.randint(1, 3), die.randint(1, 3)
            steps = some_steps(die, many, long)
            one = ptimes(ptimes(some_turnable(die, many), steps), some_turnable(die, long))
            found = self.told(one)
            together = ONE
            for place in range(min(many, long)):
                together = poly_product((together, steps[place][place]))
                self.assertEqual(found[place + 1], together)
            kinds[len(together)] = True
        self.assertGreater(len(kinds), 3)

    def test_of_partings(self):
        die = dice(76)
        for _ in range(40):
            many = die.randint(1, 3)
            rows = number_rows(some_table(die, many, many, low=0, high=1))
            levers = number_rows(some_table(die, die.randint(0, 2), many, low=0, high=1))
            gauges = number_rows(some_table(die, die.randint(0, 2), many, low=0, high=1))
            self.told(parting_of(rows, levers, gauges))

    def test_of_the_greatest_parting(self):
        die = dice(77)
        rows = [[Fraction(2 if i == j else 0) for j in range(5)] for i in range(5)]
        near = [[Fraction(0)] * 2 + [Fraction(die.randint(1, 9)) for _ in range(3)] for _ in range(12)]
        # The levers give nothing to two cells of five, and the gauges do not see these.
        one = parting_of(rows, near, near)
        self.assertEqual((len(one), len(one[0])), (17, 17))
        for order in range(9):
            told = rooted(*[2] * max(0, order - 6))
            self.assertEqual(divisor_of_order(one, order), told)
        self.assertEqual(divisor_of_order(one, 9), ())
        self.assertEqual(prank(one), 8)
        self.assertEqual(rank(ptable_at(one, (2, 1))), 6)
        self.assertEqual(pdet(one), ())

    def test_zeros_alone(self):
        for many, long in ((1, 1), (2, 1), (2, 3)):
            zeros = (((),) * long,) * many
            self.assertEqual(asked(self, prank, zeros), 0)
            for order in range(1, min(many, long) + 1):
                self.assertEqual(asked(self, divisor_of_order, zeros, order), ())

    def test_numbers_alone(self):
        one = ((poly(2), poly(4)), (poly(1), poly(2)))
        self.assertEqual([divisor_of_order(one, order) for order in (0, 1, 2)], [ONE, ONE, ()])

    def test_the_rank_at_numbers(self):
        die = dice(78)
        for _ in range(40):
            many, long = die.randint(1, 3), die.randint(1, 3)
            steps = some_steps(die, many, long)
            one = ptimes(ptimes(some_turnable(die, many), steps), some_turnable(die, long))
            for at in (0, 1, -2, 3):
                orders = [
                    order for order in range(min(many, long) + 1)
                    if divisor_of_order(one, order) and value_at(divisor_of_order(one, order), (at, 1))[0]
                ]
                self.assertEqual(own_rank(number_rows(ptable_at(one, (at, 1)))), max(orders))

    def test_great_ones(self):
        die = dice(79)
        one = tuple(tuple(great_row(die, 5) for _ in range(6)) for _ in range(6))
        self.assertEqual([divisor_of_order(one, order) for order in range(6)], [ONE] * 6)
        found = divisor_of_order(one, 6)
        self.assertEqual((len(found), found[-1], prank(one)), (25, (1, 1), 6))
        self.assertIs(divides(found, pdet(one)), True)
        self.assertEqual(divisor_of_order(ptimes(one, tuple(
            tuple(X if place == column else () for column in range(6)) for place in range(6)
        )), 2), poly(0, 0, 1))


class Brought(unittest.TestCase):
    def test_of_many(self):
        die = dice(80)
        for _ in range(50):
            self.brings(some_ptable(die, die.randint(1, 3), die.randint(1, 3), die.randint(0, 2)))

    def brings(self, one):
        left, steps, right = found = asked(self, brought, one)
        self.assertFalse(lists_within(found))
        self.assertTrue(all(is_ptable(part) for part in found))
        self.assertEqual((len(left), len(left[0])), (len(one), len(one)))
        self.assertEqual((len(right), len(right[0])), (len(one[0]), len(one[0])))
        self.assertEqual(len(own_poly_det(own_polys(left))), 1)
        self.assertEqual(len(own_poly_det(own_polys(right))), 1)
        told = own_ptimes(own_ptimes(own_polys(left), own_polys(one)), own_polys(right))
        self.assertEqual(steps, packed(told))
        last = ONE
        for place, line in enumerate(steps):
            for column, values in enumerate(line):
                if place != column:
                    self.assertEqual(values, ())
                else:
                    self.assertTrue(values == () or values[-1] == (1, 1))
                    self.assertIs(divides(last, values), True)
                    last = values
        together = ONE
        for place in range(min(len(one), len(one[0]))):
            together = poly_product((together, steps[place][place]))
            self.assertEqual(together, divisor_of_order(one, place + 1))
        self.assertIs(asked(self, is_brought, one, found), True)
        return found

    def test_of_steps(self):
        die = dice(81)
        for _ in range(40):
            many, long = die.randint(1, 3), die.randint(1, 3)
            steps = some_steps(die, many, long)
            one = ptimes(ptimes(some_turnable(die, many), steps), some_turnable(die, long))
            self.assertEqual(self.brings(one)[1], steps)

    def test_greater_ones(self):
        die = dice(82)
        one = some_ptable(die, 4, 4, 2)
        found = self.brings(one)
        self.assertIs(is_brought(found[0], brought(found[0])), True)
        great = tuple(tuple(great_row(die, 3) for _ in range(4)) for _ in range(4))
        found = brought(great)
        self.assertIs(is_brought(great, found), True)
        self.assertEqual([len(found[1][place][place]) for place in range(4)], [1, 1, 1, 9])

    def test_edges(self):
        self.assertEqual(asked(self, brought, (((),),)), (((ONE,),), (((),),), ((ONE,),)))
        self.assertEqual(brought(((poly(3),),))[1], ((ONE,),))
        self.assertEqual(brought(((X, ()), ((), poly(1, 1))))[1], ((ONE, ()), ((), poly(0, 1, 1))))
        self.assertEqual(brought((((), ()), ((), poly(0, 2))))[1], ((X, ()), ((), ())))

    def test_is_brought(self):
        flat, same = ((X, ()), ((), X)), ((ONE, ()), ((), ONE))
        is_none_spoiled(self, is_brought, flat, (same, flat, same))
        half, two = poly(Fraction(1, 2)), poly(2)
        self.assertIs(is_brought(flat, (((two, X), ((), ONE)), flat, ((half, poly(0, Fraction(-1, 2))), ((), ONE)))), True)
        swap = (((), ONE), (ONE, ()))
        self.assertIs(is_brought(flat, (swap, flat, swap)), True)
        wide = ((X, ()),)
        self.assertIs(asked(self, is_brought, wide, (((ONE,),), wide, same)), True)
        for one, thing in (
            (flat, (swap, flat, same)), (flat, (flat, flat, same)), (flat, (same, flat)), (flat, (same, flat, same, same)),
            (flat, (((two, ()), ((), ONE)), ((poly(0, 2), ()), ((), X)), same)),
            (flat, (((), (), ()), flat, same)), (flat, (((ONE,),), flat, same)), (flat, (same, ((X,),), same)),
            (flat, (((ONE, (), ()), ((), ONE, ())), flat, same)), (flat, (same, flat, ((ONE, (), ()), ((), ONE, ())))),
            (((X, ()), ((), ONE)), (same, ((X, ()), ((), ONE)), same)),
            ((((), ()), ((), X)), (same, (((), ()), ((), X)), same)),
            (((ONE, X), ((), X)), (same, ((ONE, X), ((), X)), same)),
            ((((), ()), ((), ())), ((((), ()), ((), ())), (((), ()), ((), ())), same)),
            (wide, (same, wide, ((ONE,),))), (wide, (((ONE,),), flat, same)), (wide, (((ONE,),), ((X,),), same)),
        ):
            self.assertIs(asked(self, is_brought, one, thing), False, (one, thing))
        for thing in OTHER_THINGS:
            self.assertIs(is_brought(flat, thing), False)
        # What is brought by what is not turnable is not brought.
        lone, square = ((X,),), ((poly(0, 0, 1),),)
        for thing in ((lone, square, ((ONE,),)), (((ONE,),), square, lone)):
            self.assertIs(is_brought(lone, thing), False)
        self.assertIs(is_brought(lone, (((ONE,),), lone, ((ONE,),))), True)
        self.assertIs(is_brought(((ONE,),), ((X,), (X,), (ONE,))), False)
        # The steps are the same for every choice, so no others pass.
        self.assertIs(is_brought(((X, ()), ((), ONE)), (swap, ((ONE, ()), ((), X)), swap)), True)
        self.assertIs(is_brought(((poly(0, 2),),), (((half,),), ((X,),), ((ONE,),))), True)
        self.assertIs(is_brought(((poly(0, 2),),), (((ONE,),), ((poly(0, 2),),), ((ONE,),))), False)


if __name__ == "__main__":
    unittest.main()

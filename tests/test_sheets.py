"""Sheets [14]."""

import unittest
from fractions import Fraction
from itertools import combinations, product as all_of

from handsunread.errors import NoNumber, Unfit
from handsunread.sheets import (
    count_of, filled, greatest_rank, is_rank_paper, is_sheet, low_filling, needed, rank_paper, tight_windows,
)
from tests.own import (
    NO_FRACTIONS, OTHER_THINGS, asked, dice, great_row, listed, number_rows, own_det, own_rank,
    own_swift_rank, pair, refused, row, some_row, spoiled, table,
)


def sheet(*rows):
    return tuple(tuple(None if part is None else pair(part) for part in line) for line in rows)


N = None
# Two columns of rank 1, whatever is filled in behind them.
NARROW = sheet((1, 1, N), (1, 1, N), (1, 1, N))
CROSS = sheet((1, N), (N, 1))


def unknown(told):
    return [(at, column) for at, line in enumerate(told) for column, part in enumerate(line) if part is None]


def own_filled(told, values):
    values = iter(values)
    return [[next(values) if part is None else Fraction(*part) for part in line] for line in told]


def own_fillings(told):
    return [own_filled(told, values) for values in all_of((0, 1), repeat=len(unknown(told)))]


def own_greatest(told):
    return max(own_swift_rank(rows) for rows in own_fillings(told))


def sets_below(many):
    return [places for size in range(many + 1) for places in combinations(range(many), size)]


def own_windows(told):
    """All WINDOWS with their COUNT."""
    found = {}
    for rows in sets_below(len(told)):
        for columns in sets_below(len(told[0])):
            part = [[told[at][column] for column in columns] for at in rows]
            if not any(None in line for line in part):
                rank = own_rank([[Fraction(*value) for value in line] for line in part]) if columns else 0
                found[(rows, columns)] = rank + len(told) - len(rows) + len(told[0]) - len(columns)
    return found


def some_sheet(die, rows, columns, share, **more):
    """A SHEET in which about this share of 100 places is None; many others are alike, so that ranks fall short."""
    lines = [some_row(die, columns, bottoms=(1, 1, 2), **more) for _ in range(rows)]
    if rows > 1 and die.randint(0, 1):
        lines[-1] = lines[0]
    return tuple(tuple(None if die.randrange(100) < share else part for part in line) for line in lines)


def sheets_of(seed, many, most=3, unknowns=6):
    die = dice(seed)
    while many:
        told = some_sheet(
            die, die.randint(1, most), die.randint(1, most), die.choice((0, 20, 30, 50, 100)), low=die.choice((-1, 0)),
            high=1,
        )
        if len(unknown(told)) <= unknowns:
            yield die, told
            many -= 1


class IsSheet(unittest.TestCase):
    def test_sheets(self):
        told = sheet((1, Fraction(1, 2)), (0, -3))
        self.assertIs(asked(self, is_sheet, told), True)
        for other in spoiled(told):
            # No flaw is None alone in the place of a FRACTION.
            unknown_one = any(
                other == told[:at] + (line[:column] + (None,) + line[column + 1:],) + told[at + 1:]
                for at, line in enumerate(told) for column in range(2)
            )
            self.assertIs(is_sheet(other), unknown_one, other)
        for told in (NARROW, CROSS, ((None,),), ((None, None),) * 3, sheet((1, 2, 3)), sheet((1,), (N,))):
            self.assertIs(asked(self, is_sheet, told), True)
        self.assertIs(is_sheet(((None,) * 20,) * 20), True)

    def test_no_sheets(self):
        for thing in (
            (), ((),), ((), ()), sheet((1, N), (1,)), sheet((1,), (1, N)), ((None,), ()), [(None,)], ([None],), None,
            ((0,),), ((False,),), (((1, 1), "?"),), ((((1, 1),),),), (((1, 1),), None), (None, None), (None,), (1, 1),
        ) + OTHER_THINGS:
            self.assertIs(is_sheet(thing), False, thing)
        for part in NO_FRACTIONS:
            # None alone is none of the FRACTIONS that may stand in a SHEET.
            self.assertIs(is_sheet(((part,), (None,))), part is None, part)


class Filled(unittest.TestCase):
    def test_row_by_row(self):
        self.assertEqual(asked(self, filled, NARROW, row(5, 6, 7)), table((1, 1, 5), (1, 1, 6), (1, 1, 7)))
        self.assertEqual(asked(self, filled, table((1, 2)), ()), table((1, 2)))
        self.assertEqual(asked(self, filled, ((None, None), (None, None)), row(1, 2, 3, 4)), table((1, 2), (3, 4)))
        for die, told in sheets_of(160, 30):
            values = some_row(die, len(unknown(told)))
            found = asked(self, filled, told, values)
            self.assertEqual(number_rows(found), own_filled(told, [Fraction(*value) for value in values]))

    def test_errors(self):
        for told, numbers in (
            (NARROW, ()), (NARROW, row(1, 2)), (NARROW, row(1, 2, 3, 4)), (table((1,)), row(1)), (((None,),), ()),
        ):
            refused(self, Unfit, {}, filled, told, numbers)


class Counts(unittest.TestCase):
    def test_by_all_windows(self):
        for _, told in sheets_of(161, 40):
            windows = own_windows(told)
            for rows in sets_below(len(told)):
                for columns in sets_below(len(told[0])):
                    if (rows, columns) in windows:
                        self.assertEqual(count_of(told, rows, columns), windows[(rows, columns)])
                    else:
                        with self.assertRaises(Unfit):
                            count_of(told, rows, columns)

    def test_edges(self):
        self.assertEqual(asked(self, count_of, NARROW, (), ()), 6)
        self.assertEqual(asked(self, count_of, NARROW, (0, 1, 2), ()), 3)
        self.assertEqual(asked(self, count_of, NARROW, (), (0, 1, 2)), 3)
        self.assertEqual(asked(self, count_of, NARROW, (0, 1, 2), (0, 1)), 2)
        self.assertEqual(asked(self, count_of, NARROW, (1,), (0,)), 5)
        self.assertEqual(asked(self, count_of, ((None,),), (0,), ()), 1)
        self.assertEqual(asked(self, count_of, table((0,)), (0,), (0,)), 0)

    def test_errors(self):
        for rows, columns, wrong in (
            ((3,), (), 3), ((0, 5), (7,), 5), ((-1, 4), (), -1), ((0,), (3,), 3), ((0,), (-2, 2), -2), ((0, 10 ** 20), (), 10 ** 20),
            # NoNumber for a row, then for a column, then Unfit for the None at (0, 2).
            ((0, 3), (-1, 2), 3), ((0,), (2, 3), 3), ((-4, 0), (2,), -4), ((), (3,), 3), ((3,), (3,), 3),
        ):
            refused(self, NoNumber, {"number": wrong}, count_of, NARROW, rows, columns)
        for rows, columns in (((0,), (2,)), ((0, 1, 2), (0, 1, 2)), ((1, 2), (1, 2))):
            refused(self, Unfit, {}, count_of, NARROW, rows, columns)


class GreatestRank(unittest.TestCase):
    def test_by_all_fillings_and_windows(self):
        found = set()
        for _, told in sheets_of(162, 120):
            most = asked(self, greatest_rank, told)
            self.assertEqual(most, own_greatest(told))
            windows = own_windows(told)
            self.assertEqual(most, min(windows.values()))
            found.add((len(told), len(told[0]), most))
        self.assertGreater(len(found), 14)

    def test_greater_sheets(self):
        for _, told in sheets_of(163, 25, most=5, unknowns=8):
            self.assertEqual(greatest_rank(told), own_greatest(told))

    def test_any_fractions_reach_no_more(self):
        for die, told in sheets_of(164, 60, most=4, unknowns=16):
            for _ in range(3):
                values = [Fraction(die.randint(-9, 9), die.randint(1, 4)) for _ in unknown(told)]
                self.assertLessEqual(own_swift_rank(own_filled(told, values)), greatest_rank(told))

    def test_edges(self):
        for told, most in (
            (((None,),), 1), (table((0,)), 0), (table((3,)), 1), (((None,) * 6,) * 6, 6), (((None,) * 6,), 1),
            (((None,),) * 6, 1), (table((0,) * 6), 0), (NARROW, 2), (CROSS, 2), (sheet((0, N), (0, N)), 1),
            (table(*[(1,) * 6] * 6), 1), (((None, (0, 1)), ((0, 1), (0, 1))), 1),
        ):
            self.assertEqual(asked(self, greatest_rank, told), most)


class Tight(unittest.TestCase):
    def test_by_all_windows(self):
        unlike = 0
        for _, told in sheets_of(165, 120):
            windows = own_windows(told)
            tight = [window for window, count in windows.items() if count == min(windows.values())]
            rows = [set(window[0]) for window in tight]
            columns = [set(window[1]) for window in tight]
            first = (tuple(sorted(set.intersection(*rows))), tuple(sorted(set.union(*columns))))
            second = (tuple(sorted(set.union(*rows))), tuple(sorted(set.intersection(*columns))))
            found = asked(self, tight_windows, told)
            self.assertEqual(found, (first, second))
            self.assertTrue(first in tight and second in tight)
            for one in tight:
                for other in tight:
                    both = tuple(sorted(set(one[0]) & set(other[0]))), tuple(sorted(set(one[1]) | set(other[1])))
                    self.assertIn(both, tight)
                    both = tuple(sorted(set(one[0]) | set(other[0]))), tuple(sorted(set(one[1]) & set(other[1])))
                    self.assertIn(both, tight)
            unlike += first != second
        self.assertGreater(unlike, 30)

    def test_edges(self):
        self.assertEqual(asked(self, tight_windows, ((None,),)), (((), (0,)), ((0,), ())))
        self.assertEqual(asked(self, tight_windows, table((0,))), (((0,), (0,)), ((0,), (0,))))
        self.assertEqual(asked(self, tight_windows, table((1,))), (((), (0,)), ((0,), ())))
        self.assertEqual(asked(self, tight_windows, ((None, None),)), (((), (0, 1)), ((), (0, 1))))
        self.assertEqual(asked(self, tight_windows, ((None,), (None,))), (((0, 1), ()), ((0, 1), ())))


def own_is_paper(told, number, thing):
    """Of a FILLING or a WINDOW of the right form."""
    word, shown = thing
    if word == "filling":
        known = all(one is None or one == other for line, own in zip(told, shown) for one, other in zip(line, own))
        return known and own_swift_rank(number_rows(shown)) >= number
    return own_windows(told).get(shown, number) < number


class Papers(unittest.TestCase):
    def test_papers(self):
        words = set()
        for die, told in sheets_of(166, 60):
            most = own_greatest(told)
            for number in range(max(len(told), len(told[0])) + 2):
                thing = asked(self, rank_paper, told, number)
                self.assertEqual(thing[0], "filling" if number <= most else "window")
                self.assertIs(asked(self, is_rank_paper, told, number, thing), True)
                self.assertTrue(own_is_paper(told, number, thing))
                if thing[0] == "filling":
                    for line, own in zip(told, thing[1]):
                        self.assertTrue(all(one is not None or other in ((0, 1), (1, 1)) for one, other in zip(line, own)))
                for window in own_windows(told):
                    told_so = own_is_paper(told, number, ("window", window))
                    self.assertIs(is_rank_paper(told, number, ("window", window)), told_so)
                for _ in range(3):
                    filling = filled(told, some_row(die, len(unknown(told))))
                    told_so = own_is_paper(told, number, ("filling", filling))
                    self.assertIs(is_rank_paper(told, number, ("filling", filling)), told_so)
                words.add((thing[0], number))
        self.assertGreater(len(words), 7)

    def test_great_sheets(self):
        die = dice(167)
        for share in (0, 20, 50, 80, 100):
            told = some_sheet(die, 6, 6, share)
            great = tuple(tuple(None if part is None else great_row(die, 1)[0] for part in line) for line in told)
            for own in (told, great):
                most = greatest_rank(own)
                filling, window = rank_paper(own, most), rank_paper(own, most + 1)
                self.assertEqual((filling[0], window[0]), ("filling", "window"))
                self.assertTrue(is_rank_paper(own, most, filling) and is_rank_paper(own, most + 1, window))
                self.assertEqual(own_swift_rank(number_rows(filling[1])), most)
                self.assertEqual(count_of(own, *window[1]), most)

    def test_spoiled_fillings(self):
        thing = ("filling", table((1, 1, 1), (1, 1, 0), (1, 1, Fraction(1, 2))))
        self.assertIs(asked(self, is_rank_paper, NARROW, 2, thing), True)
        self.assertIs(is_rank_paper(NARROW, 0, thing), True)
        self.assertIs(is_rank_paper(NARROW, 3, thing), False)
        # The last column is filled by whatever FRACTIONS; the other ones are told.
        for other in spoiled(thing) + [
            ("filling", table((1, 1, 1), (1, 1, 1), (1, 1, 1))), ("filling", table((1, 1, 1), (1, 0, 0), (1, 1, 0))),
            ("filling", table((1, 1, 1), (1, 1, 0))), ("filling", table((1, 1), (1, 1), (1, 1))), ("filling", ()),
            ("filling", table((1, 1, 1, 0), (1, 1, 0, 0), (1, 1, 0, 0))), ("window", thing[1]), ("paper", thing[1]),
            ("filling", table((1, 1, 1), (1, 1, 0), (1, 1, 0), (1, 1, 0))), ("filling",), thing[::-1], thing + ((),),
            ("filling", NARROW), ("Filling", thing[1]), thing[1], ("filling", listed(thing[1])), list(thing),
        ] + list(OTHER_THINGS):
            self.assertIs(is_rank_paper(NARROW, 2, other), False, other)

    def test_spoiled_windows(self):
        thing = ("window", ((0, 1, 2), (0, 1)))
        self.assertIs(asked(self, is_rank_paper, NARROW, 3, thing), True)
        self.assertIs(is_rank_paper(NARROW, 10 ** 20, ("window", ((), ()))), True)
        self.assertIs(is_rank_paper(NARROW, 2, thing), False)
        for other in spoiled(thing) + [
            ("window", ((0, 1, 2), (0, 1, 2))), ("window", ((0, 1), (0, 1))), ("window", ((), (0, 1, 2))),
            ("window", ((0, 1, 2), ())), ("window", ((1, 0, 2), (0, 1))), ("window", ((0, 1, 2), (1, 0))),
            ("window", ((0, 1, 1, 2), (0, 1))), ("window", ((0, 1, 2, 3), (0, 1))), ("window", ((-1, 0, 1, 2), (0, 1))),
            ("window", ((0, 1, 2), (-1, 0, 1))), ("window", ((0, 1, 2), (0, 1, 3))), ("window", ((0, 1, 2),)),
            ("window", ((0, 1, 2), (0, 1), ())), ("filling", thing[1]), ("window", ((False, True, 2), (0, 1))),
            ("window", ((0, 1, 2), (0, True))), ("window", [(0, 1, 2), (0, 1)]), thing[1], ("window", ()),
        ] + list(OTHER_THINGS):
            self.assertIs(is_rank_paper(NARROW, 3, other), False, other)


class Needed(unittest.TestCase):
    def test_one_by_one(self):
        kinds = set()
        for _, told in sheets_of(168, 80):
            most = own_greatest(told)
            rows = [at for at in range(len(told)) if self.left(told[:at] + told[at + 1:]) < most]
            columns = [
                at for at in range(len(told[0])) if self.left([line[:at] + line[at + 1:] for line in told]) < most
            ]
            places = []
            for at, column in unknown(told):
                lines = [list(line) for line in told]
                lines[at][column] = (0, 1)
                if own_greatest(lines) < most:
                    places.append((at, column))
            found = asked(self, needed, told)
            self.assertEqual(found, (tuple(rows), tuple(columns), tuple(places)))
            kinds.add((len(rows), len(columns), len(places)))
        self.assertGreater(len(kinds), 10)

    def left(self, told):
        return own_greatest(told) if told and told[0] else 0

    def test_edges(self):
        self.assertEqual(asked(self, needed, ((None,),)), ((0,), (0,), ((0, 0),)))
        self.assertEqual(asked(self, needed, table((0,))), ((), (), ()))
        self.assertEqual(asked(self, needed, table((2,))), ((0,), (0,), ()))
        self.assertEqual(asked(self, needed, ((None, None),)), ((0,), (), ()))
        self.assertEqual(asked(self, needed, ((None,), (None,))), ((), (0,), ()))
        self.assertEqual(asked(self, needed, sheet((0, N), (1, 0))), ((0, 1), (0, 1), ((0, 1),)))
        self.assertEqual(asked(self, needed, NARROW), ((), (2,), ()))


class LowFilling(unittest.TestCase):
    def test_square_sheets(self):
        found = [0, 0]
        for _, told in sheets_of(169, 300, most=4, unknowns=7):
            if len(told) != len(told[0]):
                refused(self, Unfit, {}, low_filling, told)
                continue
            dets = {own_det(rows) for rows in own_fillings(told)}
            thing = asked(self, low_filling, told)
            # The determinant goes up alike with each unknown one: it is always the same if 0 and 1 give but one.
            self.assertEqual(thing is None, len(dets) == 1 and dets != {0})
            if thing is not None:
                own = number_rows(thing)
                values = [own[at][column] for at, column in unknown(told)]
                self.assertEqual(own_filled(told, values), own)
                self.assertEqual(own_det(own), 0)
            found[thing is None] += 1
        self.assertGreater(min(found), 10)

    def test_great_sheets(self):
        die = dice(170)
        for share in (0, 5, 20, 50, 100):
            told = some_sheet(die, 6, 6, share, low=1, high=10 ** 9)
            thing = low_filling(told)
            if thing is None:
                self.assertEqual(own_swift_rank(own_filled(told, [0] * len(unknown(told)))), 6)
            else:
                self.assertLess(own_swift_rank(number_rows(thing)), 6)

    def test_edges(self):
        self.assertEqual(asked(self, low_filling, ((None,),)), table((0,)))
        self.assertEqual(asked(self, low_filling, table((0,))), table((0,)))
        self.assertIs(asked(self, low_filling, table((1,))), None)
        # What is unknown above the diagonal never matters: the determinant is 1.
        self.assertIs(asked(self, low_filling, sheet((1, N, N), (0, 1, N), (0, 0, 1))), None)
        # Each filling has a rank below 2.
        self.assertEqual(own_det(number_rows(asked(self, low_filling, sheet((0, N), (0, N))))), 0)
        self.assertEqual(asked(self, low_filling, sheet((1, N), (3, 2))), table((1, Fraction(2, 3)), (3, 2)))
        for told in (((None, None),), ((None,), (None,)), NARROW[:2], table((1, 0)), table((1,), (0,))):
            refused(self, Unfit, {}, low_filling, told)


if __name__ == "__main__":
    unittest.main()

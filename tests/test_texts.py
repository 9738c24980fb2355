"""Texts [22]."""

import unittest
from fractions import Fraction
from itertools import product as all_of

from handsunread.basics import is_fraction
from handsunread.errors import BadLine, BadText, Unfit
from handsunread.plants import is_plant
from handsunread.polys import is_poly
from handsunread.tables import power
from handsunread.texts import (
    clock_in, clock_text, fraction_in, fraction_text, plant_in, plant_text, poly_in, poly_text, row_in, row_text,
    rules_in, rules_text, sheet_in, sheet_text,
)
from tests.own import (
    asked, chain_plant, dice, great_row, great_table, numbers, poly, refused, row, some_plant, some_row, some_rules,
    table, thin_plant, thin_row,
)
from tests.test_plants import LONE, MIXED
from tests.test_sheets import sheet, some_sheet

N = None
MANY = 10 ** 400 - 1
SOME = (
    (), ((),), ((), ()), table((1,)), table((Fraction(1, 2), 3), (0, -1)),
)


def own_number(value):
    text, left = "", abs(value)
    while left:
        text, left = "0123456789"[left % 10] + text, left // 10
    return ("-" if value < 0 else "") + (text or "0")


def own_fraction(pair):
    return own_number(pair[0]) if pair[1] == 1 else own_number(pair[0]) + "/" + own_number(pair[1])


def own_row(parts):
    return " ".join("?" if part is None else own_fraction(part) for part in parts) if parts else "-"


def own_sheet(rows):
    return ", ".join(own_row(line) for line in rows) if rows else "none"


def own_rules(rules):
    return " | ".join(own_sheet(rule) for rule in rules) if rules else "idle"


def own_poly(parts):
    text = ""
    for at in range(len(parts) - 1, -1, -1):
        value = Fraction(*parts[at])
        if value:
            size, name = own_fraction((abs(value.numerator), value.denominator)), {0: "", 1: "x"}.get(at, "x^%d" % at)
            if text:
                text += " - " if value < 0 else " + "
            elif value < 0:
                text = "-"
            text += size if not name else name if size == "1" else size + " " + name
    return text or "0"


def own_plant(plant):
    lines = ["cell " + own_row(line) for line in plant[0]]
    for levers, gauges in plant[1]:
        lines += ["hand"] + ["lever " + own_row(line) for line in levers] + ["gauge " + own_row(line) for line in gauges]
    return "\n".join(lines)


def spoiled_text(text):
    """Texts with one sign more, less or other."""
    found = set()
    for place in range(len(text) + 1):
        found.add(text[:place] + text[place + 1:])
        for sign in " 0-/,?x^+1|\n":
            found.add(text[:place] + sign + text[place:])
            found.add(text[:place] + sign + text[place + 1:])
    return sorted(found - {text})


class Fractions(unittest.TestCase):
    def test_texts(self):
        for pair, text in (
            ((0, 1), "0"), ((1, 1), "1"), ((-1, 1), "-1"), ((10, 1), "10"), ((-3, 2), "-3/2"), ((1, 10 ** 6), "1/1000000"),
            ((-10 ** 40, 3), "-1" + "0" * 40 + "/3"), ((MANY, 1), "9" * 400), ((-MANY, 10 ** 399), "-" + "9" * 400 + "/1" + "0" * 399),
        ):
            self.assertEqual(asked(self, fraction_text, pair), text)
            self.assertEqual(asked(self, fraction_in, text), pair)

    def test_what_has_no_fraction(self):
        for text in (
            "", " ", "-", "?", "x", "a", "+1", "--1", "-0", "00", "01", "-01", "1/1", "4/2", "0/1", "0/2", "1/0", "0/0",
            "1/-2", "-1/-2", "1/", "/2", "/", "1/2/3", "1 /2", "1/ 2", " 1", "1 ", "1 2", "1.5", "1e3", "1_0", "1,0", "1\n",
            "\n1", "0x1", "1/02", "01/2", "6/4", "-6/4", "1//2", "-/2", "- 1", "1-", "none", "10 ", "1" * 401, "-" + "1" * 401,
            "1/" + "1" * 401, "9" * 5000,
        ):
            refused(self, BadText, {}, fraction_in, text)
        self.assertEqual(fraction_in("-" + "1" * 400), (-(MANY // 9), 1))

    def test_each_reader_gives_what_has_just_this_text(self):
        found = 0
        for signs in all_of("012-/ ", repeat=4):
            for long in range(1, 5):
                text = "".join(signs[:long])
                try:
                    told = fraction_in(text)
                except BadText:
                    continue
                self.assertIs(is_fraction(told), True)
                self.assertEqual(own_fraction(told), text)
                found += 1
        self.assertGreater(found, 100)
        die = dice(300)
        for _ in range(60):
            pair = die.choice((some_row(die, 1, low=-99, high=99, bottoms=(1, 2, 7, 60)), great_row(die, 1)))[0]
            self.assertEqual(asked(self, fraction_text, pair), own_fraction(pair))
            self.assertEqual(fraction_in(fraction_text(pair)), pair)

    def test_however_great(self):
        great = power(great_table(dice(301), 6, 6), 40)[0]
        self.assertGreater(great[0][0].bit_length(), 5000)
        for pair in great + ((10 ** 5000, 7), (-(10 ** 4999 + 1), 10 ** 6400), (10 ** 64, 1), (10 ** 128 + 5, 10 ** 64 + 3)):
            self.assertEqual(fraction_text(pair), own_fraction(pair))
        # A text that the package returned, but of more than 400 figures.
        refused(self, BadText, {}, fraction_in, fraction_text((10 ** 400, 1)))
        refused(self, BadText, {}, row_in, row_text(great))
        self.assertEqual(fraction_in(fraction_text((10 ** 399, 1))), (10 ** 399, 1))
        self.assertEqual(fraction_in(fraction_text((1, 10 ** 399))), (1, 10 ** 399))


class Rows(unittest.TestCase):
    def test_rows(self):
        for told, text in (
            ((), "-"), (row(0), "0"), (row(10, Fraction(-1, 2)), "10 -1/2"), (row(0, 0, -1), "0 0 -1"),
        ):
            self.assertEqual(asked(self, row_text, told), text)
            self.assertEqual(asked(self, row_in, text), told)
        die = dice(302)
        for _ in range(40):
            told = die.choice((some_row(die, die.randint(0, 6), low=-20, high=20), great_row(die, 3)))
            self.assertEqual(asked(self, row_text, told), own_row(told))
            self.assertEqual(asked(self, row_in, own_row(told)), told)

    def test_what_has_no_row(self):
        for text in (
            "", " ", "1  2", " 1", "1 ", "1 - 2", "- ", " -", "- -", "--", "?", "1 ?", "1, 2", "1,2", "1\n2", "1\n", "none",
            "idle", "1\t2", "2/4 1", "1 01", "x", "- 1", "1 " + "2" * 401,
        ):
            refused(self, BadText, {}, row_in, text)

    def test_sheets(self):
        for told, text in (
            ((), "none"), (((),), "-"), (((), ()), "-, -"), (sheet((Fraction(1, 2), N), (0, -4)), "1/2 ?, 0 -4"),
            (sheet((N, 1), (2, N)), "? 1, 2 ?"), (((None,),), "?"), (sheet((1,), (N,), (3,)), "1, ?, 3"),
            (table((1, 2)), "1 2"),
        ):
            self.assertEqual(asked(self, sheet_text, told), text)
            self.assertEqual(asked(self, sheet_in, text), told)
        die = dice(303)
        for _ in range(40):
            told = some_sheet(die, die.randint(1, 4), die.randint(1, 4), die.choice((0, 30, 100)), low=-9, high=9)
            self.assertEqual(asked(self, sheet_text, told), own_sheet(told))
            self.assertEqual(asked(self, sheet_in, own_sheet(told)), told)

    def test_what_has_no_sheet(self):
        for text in (
            "", " ", ",", ", ", "1, ", ", 1", "1,2", "1 ,2", "1 , 2", "1,  2", "1, 2 3", "1 2, 3", "-, 1", "1, -", "none, none",
            "none, 1", "1, none", "None", "none ", " none", "??", "? ?,? ?", "1 ? , 2 3", "1\n2", "1, 2\n", "- -", "?/1", "-?",
            "1, 02", "idle", "1 | 2", "1, , 2", "1; 2",
        ):
            refused(self, BadText, {}, sheet_in, text)

    def test_one_sign_off(self):
        for text in ("1/2 ?, 0 -4", "-, -", "none", "10"):
            self.one_sign_off(text, sheet_in, own_sheet)
        for text in ("10 -1/2 0", "-"):
            self.one_sign_off(text, row_in, own_row)

    def one_sign_off(self, text, reader, writer):
        for other in spoiled_text(text):
            try:
                self.assertEqual(writer(reader(other)), other)
            except BadText:
                continue


class Polys(unittest.TestCase):
    def test_polys(self):
        for told, text in (
            ((), "0"), (poly(1), "1"), (poly(-1), "-1"), (poly(7), "7"), (poly(0, 1), "x"), (poly(0, -1), "-x"),
            (poly(-3, 1), "x - 3"), (poly(1, 0, -1), "-x^2 + 1"), (poly(0, Fraction(5, 2), 0, Fraction(2, 3)), "2/3 x^3 + 5/2 x"),
            (poly(1, Fraction(-1, 2), 1), "x^2 - 1/2 x + 1"), (poly(-1, -1), "-x - 1"), (poly(0, 0, -2), "-2 x^2"),
            (poly(Fraction(-1, 3)), "-1/3"), (poly(0, Fraction(-7, 2)), "-7/2 x"), (poly(*[0] * 40, 1), "x^40"),
            (poly(10, *[0] * 9, -10), "-10 x^10 + 10"),
        ):
            self.assertEqual(asked(self, poly_text, told), text)
            self.assertEqual(asked(self, poly_in, text), told)
        die = dice(304)
        for _ in range(80):
            long = die.randint(0, 6)
            told = die.choice((some_row(die, long, low=-9, high=9), thin_row(die, long, 2), great_row(die, long)))
            told = poly(*numbers(told))
            self.assertEqual(asked(self, poly_text, told), own_poly(told))
            self.assertEqual(asked(self, poly_in, own_poly(told)), told)

    def test_what_has_no_poly(self):
        for text in (
            "", " ", "-", "+", "-0", "+0", "+x", "+ x", "- x", "--x", "1 x", "1x", "2x", "x2", "x^", "x^0", "x^1", "x^01", "x^02",
            "x^2 ", " x", "x ", "X", "y", "x^2 + x^2", "x + x", "1 + 1", "x + x^2", "1 + x", "0 x", "0 x^2 + 1", "x + 0", "0 + x",
            "x + -1", "x - -1", "x + 2/4", "2/4 x", "4/2", "1/1 x", "x  + 1", "x +  1", "x+1", "x +1", "x+ 1", "x -", "x +",
            "x - 1 -", "x 1", "x x", "x 2 x", "2 3", "x * 2", "2 * x", "x^-1", "-1 x", "x - 1 x", "x^2 - x -1", "x, 1", "?", "none",
            "x^41", "x^400", "x^" + "9" * 300, "x^" + "1" * 401, "x^41 + 1", "1" * 401, "1" * 401 + " x", "x/2", "x^2/2", "x^1/2", "x\n",
            "x\n- 1", "x^2x", "xx", "x^x", "x^ 2", "x ^2", "^2", "x^+2", "x^2 + 1 + x", "x^40 + x^41", "-x^2 - -x",
        ):
            refused(self, BadText, {}, poly_in, text)

    def test_one_sign_off(self):
        for text in ("-x^2 + 1", "2/3 x^12 - 5/2 x", "0", "x", "-1", "x^3 - x^2 + x - 1"):
            for other in spoiled_text(text):
                try:
                    told = poly_in(other)
                except BadText:
                    continue
                self.assertIs(is_poly(told), True)
                self.assertEqual(own_poly(told), other)

    def test_however_great(self):
        told = poly(*[0] * 60, -3)
        self.assertEqual(asked(self, poly_text, told), "-3 x^60")
        refused(self, BadText, {}, poly_in, "-3 x^60")
        great = ((10 ** 5000 + 1, 10 ** 4999 + 7), (0, 1), (-1, 1))
        self.assertEqual(poly_text(great), own_poly(great))


class Rules(unittest.TestCase):
    def test_rules(self):
        for told, text in (
            ((), "idle"), (((),), "none"), ((table((1,)), ((),), ()), "1 | - | none"), ((((), ()),), "-, -"),
            ((table((1, 2), (3, Fraction(-1, 4))),), "1 2, 3 -1/4"), (((), ()), "none | none"),
        ):
            self.assertEqual(asked(self, rules_text, told), text)
            self.assertEqual(asked(self, rules_in, text), told)
        die = dice(305)
        for _ in range(40):
            plant = some_plant(die, 2, die.randint(0, 4))
            told = die.choice((some_rules(die, plant), tuple(die.choice(SOME) for _ in range(die.randint(0, 4)))))
            self.assertEqual(asked(self, rules_text, told), own_rules(told))
            self.assertEqual(asked(self, rules_in, own_rules(told)), told)

    def test_what_has_no_rules(self):
        for text in (
            "", " ", "|", " | ", "1 |", "| 1", "1|2", "1 |2", "1| 2", "1 | ", " | 1", "1 | idle", "idle | idle", "idle ", "Idle",
            "?", "1 ? | 2", "1 | ?, 1", "1, 2 3 | 1", "1 |  2", "1  | 2", "1 || 2", "1 | | 2", "1\n2", "1 | 2\n", "- | ", "none |",
            "1, ? | 1", "- -", "02",
        ):
            refused(self, BadText, {}, rules_in, text)

    def test_clocks(self):
        for told, text in (
            ((), ""), (((),), "idle"), (((), ()), "idle\nidle"), (((table((1,)),), ()), "1\nidle"), ((((),), (((),),)), "none\n-"),
        ):
            self.assertEqual(asked(self, clock_text, told), text)
            self.assertEqual(asked(self, clock_in, text), told)
        die = dice(306)
        for _ in range(40):
            told = tuple(tuple(die.choice(SOME) for _ in range(die.randint(0, 3))) for _ in range(die.randint(0, 5)))
            text = "\n".join(own_rules(rules) for rules in told)
            self.assertEqual(asked(self, clock_text, told), text)
            self.assertEqual(asked(self, clock_in, text), told)

    def test_what_has_no_clock(self):
        for text, number in (
            ("\n", 0), ("idle\n", 1), ("\nidle", 0), ("idle\n\nidle", 1), ("1\n2\n?", 2), ("1 |\n2", 0), ("1\nx\ny", 1), (" ", 0),
            ("1\n 2", 1), ("1 \n2", 0), ("idle\n" * 59 + "idle ", 59), ("1\n2/4", 1), ("1\n" + "1" * 401, 1), ("none\n\n", 1),
        ):
            refused(self, BadLine, {"number": number}, clock_in, text)
        self.assertEqual(len(clock_in("idle\n" * 59 + "idle")), 60)


class Plants(unittest.TestCase):
    def test_plants(self):
        self.assertEqual(asked(self, plant_text, LONE), "cell 2")
        self.assertEqual(
            asked(self, plant_text, MIXED),
            "cell 1 2\ncell 0 1/2\nhand\nlever 1 0\nlever 0 3\ngauge 0 1\nhand\nlever 1 1\nhand\ngauge 1 -1\ngauge 2 0\nhand",
        )
        die = dice(307)
        for _ in range(60):
            make = die.choice((some_plant, thin_plant, chain_plant))
            plant = make(die, die.randint(1, 4), die.randint(0, 4))
            self.assertEqual(asked(self, plant_text, plant), own_plant(plant))
            self.assertEqual(asked(self, plant_in, own_plant(plant)), plant)
        great = (great_table(die, 5, 5), ((great_table(die, 3, 5), great_table(die, 3, 5)),) * 4)
        self.assertEqual(asked(self, plant_in, asked(self, plant_text, great)), great)

    def test_edges(self):
        self.assertEqual(asked(self, plant_in, "cell 1\nhand"), (table((1,)), (((), ()),)))
        self.assertEqual(asked(self, plant_in, "cell 1\nhand\nhand\ngauge 2"), (table((1,)), (((), ()), ((), table((2,))))))
        self.assertEqual(
            asked(self, plant_in, "cell 1\nhand\nlever 1\nhand\nlever 2\ngauge 3\nhand"),
            (table((1,)), ((table((1,)), ()), (table((2,)), table((3,))), ((), ()))),
        )
        for text in ("", "hand", "hand\nlever 1", "cell 1 0", "cell 1\ncell 2", "cell -", "cell 1\nhand\nlever 1 2", "cell 1\nhand\ngauge -"):
            refused(self, Unfit, {}, plant_in, text)
        refused(self, Unfit, {}, plant_in, "cell 1 0\ncell 0 1 2")
        refused(self, Unfit, {}, plant_in, "hand\nlever -")

    def test_bad_lines(self):
        for text, number in (
            ("\n", 0), (" ", 0), ("cell 1\n", 1), ("\ncell 1", 0), ("cell", 0), ("cell ", 0), ("cell  1", 0), ("cell 1 ", 0),
            (" cell 1", 0), ("Cell 1", 0), ("cells 1", 0), ("cell1", 0), ("cell 1\nhand ", 1), ("cell 1\nhand 1", 1),
            ("cell 1\nhands", 1), ("cell 1\nlever 1\nhand", 1), ("cell 1\ngauge 1", 1), ("lever 1", 0), ("gauge 1", 0),
            ("cell 1\nhand\ncell 1", 2), ("hand\ncell 1", 1), ("cell 1\nhand\nlever 1\ncell 1", 3),
            ("cell 1\nhand\ngauge 1\nlever 1", 3), ("cell 1\nhand\ngauge 1\ncell 1", 3), ("cell 1\nhand\nlever", 2),
            ("cell 1\nhand\nlever ?", 2), ("cell ?", 0), ("cell 1, 2", 0), ("cell 2/4", 0), ("cell 1\nhand\n\nlever 1", 2),
            ("cell 1\nhand\nwheel 1", 2), ("cell 1\nhand\nlever 1\nlever 1 \ngauge 1", 3), ("cell none", 0), ("1", 0),
            # Ahead of ROWS that do not fit.
            ("cell 1 2\nhand\nlever 1 2 3\nlever x", 3), ("hand\nlever 1\nhand\ngauge 1\nlever 2", 4), ("cell 1\n" * 59 + "cell", 59),
        ):
            refused(self, BadLine, {"number": number}, plant_in, text)

    def test_one_sign_off(self):
        text = "cell 1 0\ncell 0 1\nhand\nlever 1 0\ngauge 0 -1/2\nhand"
        read = 0
        for other in spoiled_text(text):
            try:
                told = plant_in(other)
            except (BadLine, Unfit):
                continue
            self.assertIs(is_plant(told), True)
            self.assertEqual(own_plant(told), other)
            read += 1
        self.assertGreater(read, 10)

    def test_all_rows_of_lines(self):
        # Of lines in any order just those are read that tell a PLANT.
        lines = ("cell 1", "hand", "lever 1", "gauge 1")
        found = 0
        for many in range(5):
            for some in all_of(lines, repeat=many):
                text = "\n".join(some)
                try:
                    told = plant_in(text)
                except BadLine as held:
                    self.assertFalse(self.stands(some[:held.number + 1]))
                    self.assertTrue(self.stands(some[:held.number]))
                    continue
                except Unfit:
                    self.assertTrue(self.stands(some))
                    self.assertNotEqual(some.count("cell 1"), 1)
                    continue
                self.assertEqual(own_plant(told), text)
                found += 1
        # With one cell: no line behind it or those of hands alone, up to three.
        self.assertEqual(found, 1 + 1 + 3 + 8)

    def stands(self, some):
        """Whether each of these lines may stand behind the one ahead."""
        order = {"cell 1": 0, "hand": 1, "lever 1": 1, "gauge 1": 2}
        for place, line in enumerate(some):
            ahead = some[:place]
            if line == "cell 1" and any(other != "cell 1" for other in ahead):
                return False
            if line in ("lever 1", "gauge 1") and "hand" not in ahead:
                return False
            if line == "lever 1" and order[ahead[-1]] == 2:
                return False
        return True


if __name__ == "__main__":
    unittest.main()

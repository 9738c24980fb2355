"""Any thing at all: each function that takes one tells whether it is what the document describes, and raises nothing."""

import importlib
import inspect
import unittest
from fractions import Fraction

from tests.own import dice, listed, poly, rooted, row, table
from tests.test_form import INTERFACE
from tests.test_judge import ALL_SO, NONE_SO
from tests.test_memory import CALM, CART, TWICE
from tests.test_plants import LONE, MIXED
from tests.test_sheets import CROSS
from tests.test_staying import BLIND, RING
from tests.test_sure import ONCE, WIRED

ONE, TWO = row(1), table((1, 2), (0, 1))
X = rooted(0)
# By each function with a thing the arguments ahead of it, and a thing of which it returns True.
SAMPLES = {
    "is_table": (((2, 2), TWO),),
    "is_solved": (((table((1, 1)), row(2)), row(1, 1)),),
    "is_against": (((table((1,), (1,)), row(1, 2)), row(-1, 1)),),
    "is_space": (((2,), table((1, Fraction(1, 2)))),),
    "is_off_space": (((table((1, 2)), row(1, 3)), row(-2, 1)),),
    "is_poly": (((), poly(1, 2)), ((), ())),
    "is_tone": (((), rooted(1, 2)),),
    "is_common_paper": (((rooted(1), rooted(-1)), (poly(Fraction(-1, 2)), poly(Fraction(1, 2)))),),
    "is_ptable": (((), ((X, ()), (poly(1), X))),),
    "is_brought": ((((((X, ()), ((), X))),), (((poly(1), ()), ((), poly(1))), ((X, ()), ((), X)), ((poly(1), ()), ((), poly(1))))),),
    "is_plant": (((), MIXED), ((), LONE)),
    "is_rules": (((BLIND,), (((),), ())), ((WIRED,), (table((3,)),))),
    "is_moves": (((MIXED,), (row(1, 2), row(3), (), ())),),
    "is_clock": (((WIRED,), ONCE), ((WIRED,), ())),
    "is_steady": (((CART,), (CALM,)), ((LONE,), ())),
    "is_play": (((WIRED,), (table((1,), (2,)), ((row(1),),))),),
    "is_way": (((WIRED, ONE, ONE), (0, 0)),),
    "is_sure_paper": (((BLIND, ONE, ONE), ((1,), table((1,)), ())),),
    "is_unsure_paper": (((WIRED, ONE, ONE), (ONCE, 1)),),
    "is_knowing": (((WIRED, 0, row(2)), ((0, 0, 0, (2, 1)),)),),
    "is_hiding": (((BLIND, 0, row(2)), row(Fraction(1, 2))),),
    "is_trail": (((WIRED, ONE, ONE), ((0, "gauge", 0), (0, "lever", 0))),),
    "is_most_trails": (((WIRED, ONE, ONE), (((0, "gauge", 0), (0, "lever", 0)),)),),
    "is_cut": (((WIRED, ONE, ONE), ((0, "lever", 0),)),),
    "is_sheet": (((), CROSS),),
    "is_rank_paper": (((CROSS, 2), ("filling", table((1, 0), (0, 1)))), ((CROSS, 3), ("window", ((), (0, 1))))),
    "is_rank_rules": (((WIRED, (3, 1)), (table((1,)),)),),
    "is_stay_paper": (((BLIND, rooted(2)), ("lot", (1,))), ((RING, rooted(1)), ("rules", (table((1,)), table((1,)))))),
    "is_few_rules": (((RING,), ((table((1,)), table((1,))), (table((0,)), table((0,))))),),
    "is_program": (((CART, 0), CALM),),
    "is_leanest": (((CART, 0, TWICE), CALM),),
    "is_offer": (((MIXED,), (0, "gauge", row(1, 2))),),
    "is_bar": (((BLIND, (), (), rooted(2)), (1,)),),
    "is_in_row": (((BLIND,), (((0,), (0, 1)),)),),
    "is_claim": tuple(((), claim) for claim in ALL_SO + NONE_SO),
    "is_paper": (((ALL_SO[2],), (1,)), ((NONE_SO[3],), table((1, 1), (2, 1)))),
    "shows": (((ALL_SO[0],), ((1,), table((1,)), ())), ((ALL_SO[1],), ((), ())), ((ALL_SO[5],), poly(Fraction(-1, 2), 1))),
}
ODD = (
    None, True, False, 0, 1, 2, -1, 10 ** 60, "", "lever", "gauge", "lot", "sure", "x - 2", (), [], (0, 1), (1, 1), [1, 1], (1, 0),
    ((0, 1),), [[1, 1]], ((),), ((), ()), ("",), (None,), ([],), (0,), (0, 0), ((0,), (0,)), (-5, 3), (6, 4),
)


def with_thing():
    """Triples (function, arguments ahead, thing)."""
    for file, names in INTERFACE.items():
        module = importlib.import_module("handsunread." + file)
        for name, arguments in names.items():
            if "thing" in arguments.split(", "):
                for ahead, thing in SAMPLES[name]:
                    yield getattr(module, name), ahead, thing


def call(function, ahead, thing):
    """The arguments in the order of the function, whose thing need not be the last one."""
    names = list(inspect.signature(function).parameters)
    named = dict(zip([name for name in names if name != "thing"], ahead))
    return function(thing=thing, **named)


def altered(die, thing, deep=0):
    """The thing with some part of it in another one's place."""
    if die.randint(0, 3) == 0 or deep > 10 or not isinstance(thing, (tuple, list)) or not thing:
        odd = die.choice(ODD)
        for _ in range(die.choice((0, 0, 0, 1, 3, 11 - deep if deep < 11 else 0))):
            odd = die.choice(((odd,), [odd], (odd, odd)[:die.randint(1, 2)]))
        return odd
    parts, place = list(thing), die.randrange(len(thing))
    act = die.randint(0, 5)
    if act == 0:
        del parts[place]
    elif act == 1:
        parts.insert(place, parts[place])
    elif act == 2:
        return listed(thing)
    else:
        parts[place] = altered(die, parts[place], deep + 1)
    return tuple(parts)


class Things(unittest.TestCase):
    def test_each_function_has_samples(self):
        named = {function.__name__ for function, _, _ in with_thing()}
        self.assertEqual(named, set(SAMPLES))

    def test_samples(self):
        for function, ahead, thing in with_thing():
            self.assertIs(call(function, ahead, thing), True, (function.__name__, thing))
            if isinstance(thing, tuple):
                told = call(function, ahead, list(thing))
                self.assertIs(told, None if function.__name__ == "shows" else False, function.__name__)

    def test_odd_things(self):
        die = dice(450)
        for function, ahead, thing in with_thing():
            own = (None, True, False) if function.__name__ == "shows" else (True, False)
            for other in ODD + tuple(altered(die, thing) for _ in range(120)):
                kept = repr(other)
                told = call(function, ahead, other)
                self.assertTrue(any(told is one for one in own), (function.__name__, other, told))
                self.assertEqual(repr(other), kept)
                if isinstance(other, list) or "[" in kept or "True" in kept or "False" in kept:
                    self.assertIn(told, (None, False), (function.__name__, other))


if __name__ == "__main__":
    unittest.main()

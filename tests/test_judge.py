"""Claims, and one judge for all papers [21]."""

import unittest
from fractions import Fraction
from itertools import product as all_of

from handsunread.errors import NoHand, NoWord, Unfit
from handsunread.judge import about, is_claim, is_paper, is_so, not_so, paper, shows, turned_by
from handsunread.plants import is_rules, wires
from handsunread.sheets import is_sheet
from handsunread.spaces import is_space, kept_with
from handsunread.wires import without_wire
from tests.own import (
    OTHER_THINGS, asked, dice, great_row, is_none_spoiled, listed, number_rows, numbers, own_applied, own_divided, own_in,
    own_is_way, own_product, own_reach, own_shown, own_sum, own_table_poly, own_ways, own_within, poly, refused,
    relay, rooted, row, some_row, some_rules, spoiled, table, thin_row, unit_rows,
)
from tests.test_learn import own_hears
from tests.test_partings import TONES, lots_of, own_divisor, small_plants
from tests.test_plants import LONE, MIXED
from tests.test_plays import some_steady
from tests.test_sheets import CROSS, own_fillings, own_greatest, own_is_paper, own_windows, sheets_of
from tests.test_sight import own_steady_whole
from tests.test_staying import BLIND, RING, TWICE, have_common, own_poly_of, own_stay
from tests.test_sure import own_is_sure_paper

WORDS = ("sure", "deaf", "held", "most", "short", "covers")
# The examples of the document: hand 0 moves the one cell and sees nothing, hand 1 sees it and has no lever.
WIRED = (BLIND[0], ((table((1,)), table((1,))), BLIND[1][1]))
MUTE, LOG = ((), (), ((),), ((),)), (table((Fraction(1, 2),)), table((1,)), (), ())
SURE, DEAF, HELD = ("sure", BLIND, row(1), row(1)), ("deaf", BLIND, 1, 0), ("held", BLIND, rooted(2))
MOST, SHORT, COVERS = ("most", CROSS, 2), ("short", BLIND, (1,), rooted(2, 5)), ("covers", BLIND, (MUTE, LOG), rooted(2))
ALL_SO = (SURE, DEAF, HELD, MOST, SHORT, COVERS)
NONE_SO = (
    ("sure", WIRED, row(1), row(1)), ("deaf", BLIND, 0, 1), ("held", BLIND, rooted(3)), ("most", CROSS, 1),
    ("short", BLIND, (0,), rooted(2)), ("covers", BLIND, (MUTE, LOG), rooted(2, 3)),
)


def some_claim(die, word, plant, told):
    """A CLAIM with this word, about the PLANT or the SHEET told; None if there is none."""
    if word == "sure":
        return word, plant, unit_rows(die, 1, len(plant[0]))[0], thin_row(die, len(plant[0]), 2)
    if word == "deaf":
        hands = len(plant[1])
        return (word, plant, die.randrange(hands), die.randrange(hands)) if hands else None
    if word == "held":
        return word, plant, die.choice(TONES)
    if word == "most":
        return word, told, die.randint(0, 3)
    if word == "short":
        return word, plant, die.choice(lots_of(plant)), die.choice(TONES)
    steady = some_steady(die, plant, most=1)
    whole = own_table_poly(own_steady_whole(plant, steady))
    return word, plant, steady, die.choice(TONES + (row(*own_stay(plant)) if len(own_stay(plant)) > 1 else row(*whole), row(*whole)))


def claims_of(seed, many):
    """CLAIMS of all words, with a die."""
    told = sheets_of(seed, many, unknowns=4)
    for (die, plant), (_, sheet) in zip(small_plants(seed + 1, many, entries=4), told):
        for word in WORDS:
            claim = some_claim(die, word, plant, sheet)
            if claim is not None:
                yield die, claim


def own_is_so(claim):
    word = claim[0]
    if word == "sure":
        return not own_ways(*claim[1:])
    if word == "deaf":
        return (claim[3], claim[2]) not in own_hears(claim[1])
    if word == "held":
        return have_common(own_stay(claim[1]), numbers(claim[2]))
    if word == "most":
        return own_greatest(claim[1]) <= claim[2]
    if word == "short":
        return have_common(own_divisor(claim[1], claim[2]), numbers(claim[3]))
    return not own_divided(own_table_poly(own_steady_whole(claim[1], claim[2])), numbers(claim[3]))


def own_is_deaf_paper(plant, teller, hearer, lot, moved):
    rows, move = number_rows(plant[0]), number_rows(moved)
    if hearer in lot or not all(own_in(move, own_applied(rows, cells)) for cells in move):
        return False
    for hand, (levers, gauges) in enumerate(plant[1]):
        if (hand in lot or hand == teller) and not own_within(number_rows(levers), move):
            return False
        if hand not in lot and any(own_shown(gauge, cells) for gauge in number_rows(gauges) for cells in move):
            return False
    return True


def own_between(plant):
    none = row(*[0] * len(plant[0]))
    return own_reach(plant, none, none)[1]


def own_is_chain(between, teller, hearer, hands):
    return len(hands) > 1 and hands[0] == teller and hands[-1] == hearer and all(
        between[one][other] for one, other in zip(hands, hands[1:])
    )


def own_shows(claim, thing, told):
    """Whether thing, of the right form, is a PAPER that the CLAIM is so, or is not, as told."""
    word, first, second = claim[:3]
    if word == "sure":
        if told:
            return own_is_sure_paper(first, second, claim[3], thing)
        return own_is_way(own_reach(first, second, claim[3]), thing)
    if word == "deaf":
        if told:
            return own_is_deaf_paper(first, second, claim[3], *thing)
        return own_is_chain(own_between(first), second, claim[3], thing)
    if word == "held":
        if told:
            return have_common(own_divisor(first, thing), numbers(second))
        return not have_common(own_poly_of(first, thing), numbers(second))
    if word == "most":
        return own_is_paper(first, second + 1, ("window" if told else "filling", thing))
    if word == "short":
        divisor, tone = own_divisor(first, second), numbers(claim[3])
        if told:
            return not own_divided(divisor, numbers(thing)) and not own_divided(tone, numbers(thing))
        near, far = numbers(thing[0]), numbers(thing[1])
        return own_sum(own_product(near, divisor), own_product(far, tone)) == [1]
    whole, tone = own_table_poly(own_steady_whole(first, second)), numbers(claim[3])
    if told:
        return own_product(numbers(thing), tone) == whole
    return 0 < len(thing) < len(tone) and not own_divided(own_sum(whole, [-value for value in numbers(thing)]), tone)


def some_things(die, claim):
    """Things that are like PAPERS of the CLAIM, so or not, as pairs (thing, told)."""
    word, first, second = claim[:3]
    if word == "most":
        fillings = [(table(*rows), False) for rows in own_fillings(first)]
        return [(window, True) for window in own_windows(first)] + fillings
    hands = range(len(first[1]))
    rows = [hands_row for many in (1, 2, 3) for hands_row in all_of(hands, repeat=many)]
    if word in ("sure", "deaf"):
        found = [(hands_row, False) for hands_row in rows]
        for lot in lots_of(first):
            levers = tuple(lever for hand in lot for lever in first[1][hand][0])
            for more in ((), (claim[2],) if word == "sure" else first[1][claim[2]][0], unit_rows(die, 1, len(first[0]))):
                space = kept_with(first[0], levers + more)
                moved = kept_with(first[0], levers)
                found.append(((lot, space, moved), True) if word == "sure" else ((lot, space), True))
        return found
    if word == "held":
        some = [some_rules(die, first) for _ in range(4)]
        return [(lot, True) for lot in lots_of(first)] + [(rules, False) for rules in some if first[1]]
    polys = [some_row(die, die.randint(1, 3)) + ((1, 1),) for _ in range(3)]
    if word == "short":
        pairs = [((die.choice(polys), die.choice(polys)), False) for _ in range(3)]
        return [(tone, True) for tone in TONES + tuple(polys)] + pairs
    whole = row(*own_table_poly(own_steady_whole(first, second)))
    return [(some, told) for some in polys + [whole, rooted(1), poly(1), poly(2)] for told in (True, False)]


class IsClaim(unittest.TestCase):
    def test_claims(self):
        for claim in ALL_SO + NONE_SO:
            if claim[0] == "most":
                # A None in the place of a FRACTION is no flaw of a SHEET.
                self.assertIs(asked(self, is_claim, claim), True)
                for other in spoiled(claim):
                    whole = isinstance(other, tuple) and other[0] == "most" and repr(other[2]) == repr(claim[2])
                    self.assertIs(is_claim(other), whole and is_sheet(other[1]), other)
            else:
                is_none_spoiled(self, is_claim, claim)
        for _, claim in claims_of(280, 10):
            self.assertIs(asked(self, is_claim, claim), True)
        # However great.
        five = (table(*[[1] * 5] * 5), (((), ()),) * 6)
        for claim in (
            ("held", five, rooted(*range(9))), ("sure", five, row(*[0] * 5), row(*[1] * 5)), ("deaf", five, 5, 5),
            ("short", five, (0, 5), rooted(1)), ("most", table(*[[1] * 9] * 9), 10 ** 50), ("covers", LONE, (), rooted(1)),
        ):
            self.assertIs(asked(self, is_claim, claim), True)

    def test_what_is_none(self):
        for thing in OTHER_THINGS + (
            (), ("sure",), ("loud", BLIND), ("loud", BLIND, row(1), row(1)), SURE[:3], SURE + (1,), DEAF[:3], DEAF + (0,),
            HELD[:2], HELD + (rooted(2),), MOST[:2], MOST + (1,), SHORT[:3], SHORT + (1,), COVERS[:3], COVERS + (1,),
            ("Sure",) + SURE[1:], (("sure",),) + SURE[1:], (["sure"],) + SURE[1:], (None,) + SURE[1:], (0,) + SURE[1:],
            ("sure", BLIND, row(1), row(1, 1)), ("sure", BLIND, row(), row(1)), ("sure", BLIND, row(1), rooted(1)),
            ("deaf", BLIND, 2, 0), ("deaf", BLIND, 0, 2), ("deaf", BLIND, -1, 0), ("deaf", BLIND, True, 0),
            ("deaf", BLIND, 0, False), ("deaf", LONE, 0, 0), ("deaf", BLIND, (0,), 0), ("deaf", BLIND, "0", 0),
            ("held", BLIND, poly(1)), ("held", BLIND, ()), ("held", BLIND, poly(1, 2)), ("held", CROSS, rooted(1)),
            ("most", (), 1), ("most", ((),), 1), ("most", BLIND, 1), ("most", CROSS, -1), ("most", CROSS, True),
            ("most", CROSS, (1, 1)), ("most", CROSS, None), ("short", BLIND, (1, 0), rooted(2)),
            ("short", BLIND, (2,), rooted(2)), ("short", BLIND, (1, 1), rooted(2)), ("short", BLIND, 1, rooted(2)),
            ("short", BLIND, (1,), poly(1)), ("covers", BLIND, (LOG, MUTE), rooted(2)), ("covers", BLIND, (MUTE,), rooted(2)),
            ("covers", BLIND, (), rooted(2)), ("covers", BLIND, (MUTE, LOG), poly(3)),
        ):
            self.assertIs(asked(self, is_claim, thing), False, thing)


class IsSo(unittest.TestCase):
    def test_by_own_sums(self):
        found = {}
        for _, claim in claims_of(281, 40):
            told = own_is_so(claim)
            self.assertIs(asked(self, is_so, claim), told, claim[0])
            found[(claim[0], told)] = found.get((claim[0], told), 0) + 1
        self.assertEqual(len(found), 12)
        self.assertGreater(min(found.values()), 3)

    def test_edges(self):
        for claim in ALL_SO:
            self.assertIs(asked(self, is_so, claim), True)
        for claim in NONE_SO:
            self.assertIs(asked(self, is_so, claim), False)
        # A hand that hears itself, or does not.
        self.assertIs(asked(self, is_so, ("deaf", WIRED, 0, 0)), False)
        self.assertIs(asked(self, is_so, ("deaf", BLIND, 0, 0)), True)
        self.assertIs(asked(self, is_so, ("most", CROSS, 0)), False)
        self.assertIs(asked(self, is_so, ("most", table((0,)), 0)), True)
        self.assertIs(asked(self, is_so, ("held", LONE, rooted(2))), True)
        self.assertIs(asked(self, is_so, ("held", LONE, rooted(3))), False)
        self.assertIs(asked(self, is_so, ("covers", LONE, (), rooted(2))), True)
        self.assertIs(asked(self, is_so, ("covers", LONE, (), rooted(2, 2))), False)
        self.assertIs(asked(self, is_so, ("short", LONE, (), rooted(2))), True)

    def test_with_a_wire_less(self):
        for die, claim in claims_of(282, 25):
            if claim[0] in ("sure", "deaf", "held", "short") and is_so(claim):
                for wire in wires(claim[1]):
                    self.assertIs(is_so(about(claim, without_wire(claim[1], wire))), True)


class Papers(unittest.TestCase):
    def test_own_papers(self):
        for _, claim in claims_of(283, 40):
            told = own_is_so(claim)
            thing = asked(self, paper, claim)
            self.assertIs(asked(self, shows, claim, thing), told, claim)
            self.assertIs(asked(self, is_paper, claim, thing), True)
            self.assertTrue(own_shows(claim, thing, told), claim)

    def test_the_form_of_papers(self):
        for _, claim in claims_of(284, 20):
            word, thing = claim[0], paper(claim)
            if is_so(claim):
                if word == "sure":
                    self.assertTrue(is_space(thing[1], len(claim[1][0])) and is_space(thing[2], len(claim[1][0])))
                if word == "deaf":
                    self.assertTrue(is_space(thing[1], len(claim[1][0])))
            elif word == "held":
                self.assertIs(is_rules(claim[1], thing), True)
            elif word == "most":
                self.assertIs(is_sheet(thing), True)

    def test_what_is_like_papers(self):
        found = {}
        for die, claim in claims_of(285, 25):
            own = own_is_so(claim)
            for thing, told in some_things(die, claim):
                held = own_shows(claim, thing, told)
                found[(claim[0], told, held)] = found.get((claim[0], told, held), 0) + 1
                answer = shows(claim, thing)
                if held:
                    # One and the same thing never shows that it is so and that it is not.
                    self.assertIs(answer, told, (claim, thing))
                    self.assertIs(told, own)
                elif not own_shows_other(claim, thing, told):
                    self.assertIsNone(answer, (claim, thing))
                self.assertIs(is_paper(claim, thing), answer is not None)
        for word in ("sure", "deaf", "held", "most"):
            for told in (True, False):
                for held in (True, False):
                    self.assertGreater(found[(word, told, held)], 1, (word, told, held))

    def test_papers_of_others(self):
        things = [paper(claim) for claim in ALL_SO + NONE_SO]
        for _, claim in claims_of(286, 8):
            for thing in things + list(OTHER_THINGS):
                self.assertIn(shows(claim, thing), (None, is_so(claim)))
        for claim in ALL_SO + NONE_SO:
            for thing in things + list(OTHER_THINGS):
                self.assertIn(asked(self, shows, claim, thing), (None, claim in ALL_SO))

    def test_spoiled(self):
        for claim in ALL_SO + NONE_SO + (("held", RING, rooted(2)), ("held", TWICE, rooted(0)), ("sure", MIXED, row(0, 0), row(1, 0))):
            thing = paper(claim)
            self.assertIs(shows(claim, thing), is_so(claim))
            for other in spoiled(thing):
                self.assertIsNone(shows(claim, other), (claim, other))
                self.assertIs(is_paper(claim, other), False)

    def test_edges(self):
        self.assertIs(asked(self, shows, SURE, ((1,), table((1,)), ())), True)
        self.assertIsNone(asked(self, shows, SURE, ((), table((1,)), ())))
        self.assertIsNone(asked(self, shows, SURE, (0,)))
        self.assertIs(asked(self, shows, NONE_SO[0], (0,)), False)
        self.assertIs(asked(self, shows, NONE_SO[0], (0, 0, 0)), False)
        self.assertIsNone(asked(self, shows, NONE_SO[0], (1,)))
        self.assertIsNone(asked(self, shows, NONE_SO[0], (True,)))
        self.assertIs(asked(self, shows, DEAF, ((), ())), True)
        self.assertIsNone(asked(self, shows, DEAF, ((0,), ())))
        self.assertIs(asked(self, shows, DEAF, ((1,), ())), True)
        self.assertIs(asked(self, shows, NONE_SO[1], (0, 1)), False)
        for thing in ((0,), (1,), (), (0, 0, 1), (1, 0), (0, True), ((0, 1),), (0, 2), (0, 1, 1)):
            self.assertIsNone(asked(self, shows, NONE_SO[1], thing))
        # One hand maybe more than once.
        self.assertIs(asked(self, shows, ("deaf", WIRED, 0, 1), (0, 0, 0, 1)), False)
        self.assertIs(asked(self, shows, ("deaf", WIRED, 0, 0), (0, 0)), False)
        self.assertIsNone(asked(self, shows, ("deaf", WIRED, 0, 0), (0,)))
        self.assertIs(asked(self, shows, HELD, (1,)), True)
        self.assertIsNone(asked(self, shows, HELD, (0,)))
        self.assertIs(asked(self, shows, MOST, ((), (0, 1))), True)
        self.assertIsNone(asked(self, shows, MOST, ((0,), (0,))))
        self.assertIs(asked(self, shows, NONE_SO[3], table((1, 1), (2, 1))), False)
        self.assertIsNone(asked(self, shows, NONE_SO[3], table((1, 1), (1, 1))))
        self.assertIsNone(asked(self, shows, NONE_SO[3], table((2, 1), (1, 1))))
        # The TONE may be a part of what they have in common.
        twice = (table((2, 0), (0, 3)), ())
        for thing in (rooted(2), rooted(3), rooted(2, 3)):
            self.assertIs(asked(self, shows, ("short", twice, (), rooted(2, 3, 5)), thing), True)
        for thing in (poly(1), poly(2, 1), rooted(5), rooted(2, 2), poly(-4, 2), (), poly(-2, 1) + ((0, 1),)):
            self.assertIsNone(asked(self, shows, ("short", twice, (), rooted(2, 3, 5)), thing))
        self.assertIs(asked(self, shows, ("short", LONE, (), rooted(3)), (poly(1), poly(-1))), False)
        # (x - 2) (x - 2) less (x - 3) (x - 1) is 1.
        self.assertIs(asked(self, shows, ("short", LONE, (), rooted(3)), (rooted(2), poly(1, -1))), False)
        for thing in ((poly(1), poly(1)), (poly(2), poly(-2)), (poly(1),), (poly(1), poly(-1), ()), (rooted(2), rooted(1))):
            self.assertIsNone(asked(self, shows, ("short", LONE, (), rooted(3)), thing))
        # A pair of POLYS that come to what both have in common shows nothing.
        self.assertIsNone(asked(self, shows, ("short", LONE, (), rooted(2)), ((), poly(1))))
        self.assertIs(asked(self, shows, ("covers", twice, (), rooted(2)), rooted(3)), True)
        self.assertIs(asked(self, shows, ("covers", twice, (), rooted(2, 3)), poly(1)), True)
        for thing in (poly(1), rooted(2), poly(-6, 2), (), rooted(3, 3)):
            self.assertIsNone(asked(self, shows, ("covers", twice, (), rooted(2)), thing))
        self.assertIs(asked(self, shows, ("covers", twice, (), rooted(1)), poly(2)), False)
        for thing in (poly(1), (), poly(3, -1), poly(0, 2), rooted(4)):
            self.assertIsNone(asked(self, shows, ("covers", twice, (), rooted(1)), thing))
        # Of a lesser degree than the whole, the rest is the poly itself.
        self.assertIs(asked(self, shows, ("covers", LONE, (), rooted(2, 2)), rooted(2)), False)

    def test_deaf_over_many_hands(self):
        die, long = dice(290), set()
        for _ in range(12):
            plant = relay(die, 5, die.randint(2, 4))[0]
            between = own_between(plant)
            for teller, hearer in all_of(range(len(plant[1])), repeat=2):
                claim = ("deaf", plant, teller, hearer)
                thing = asked(self, paper, claim)
                self.assertIs(shows(claim, thing), is_so(claim))
                if not is_so(claim):
                    self.assertTrue(own_is_chain(between, teller, hearer, thing))
                    long.add(len(thing))
                    # With a hand left out it is a row of hands no more, or leads elsewhere.
                    for place in range(len(thing)):
                        other = thing[:place] + thing[place + 1:]
                        told = own_is_chain(between, teller, hearer, other)
                        self.assertIs(shows(claim, other), False if told else None)
        self.assertLessEqual({2, 3, 4}, long)

    def test_a_space_that_is_not_kept(self):
        # What hand 0 moves in cell 0 is in cell 1 a tick later, where hand 1 sees it.
        plant = (table((0, 0), (1, 0)), ((table((1, 0)), ()), ((), table((0, 1)))))
        claim = ("deaf", plant, 0, 1)
        self.assertIs(asked(self, shows, claim, (0, 1)), False)
        self.assertIsNone(asked(self, shows, claim, ((), table((1, 0)))))
        self.assertIsNone(asked(self, shows, claim, ((), table((1, 0), (0, 1)))))
        self.assertIsNone(asked(self, shows, ("sure", plant, row(0, 1), row(0, 1)), ((0,), table((1, 0), (0, 1)), table((1, 0)))))
        self.assertIsNone(asked(self, shows, ("deaf", plant, 1, 0), ((), table((1, 0)))))
        self.assertIs(asked(self, shows, ("deaf", plant, 1, 0), ((1,), table((0, 1)))), True)

    def test_without_hands(self):
        # () is a lot and RULES: it shows just what is so.
        self.assertIs(asked(self, shows, ("held", LONE, rooted(2)), ()), True)
        self.assertIs(asked(self, shows, ("held", LONE, rooted(3)), ()), False)
        self.assertIs(asked(self, shows, ("sure", LONE, row(1), row(1)), ((), table((1,)), ())), True)
        self.assertIs(asked(self, shows, ("sure", LONE, row(0), row(1)), ((), (), ())), True)
        for claim in (("held", LONE, rooted(2)), ("held", LONE, rooted(3)), ("covers", LONE, (), rooted(3))):
            self.assertIs(shows(claim, asked(self, paper, claim)), is_so(claim))

    def test_great_numbers(self):
        die = dice(287)
        great = (10 ** 40 - 1, 999983)
        plant = ((great_row(die, 2), great_row(die, 2)), (((great_row(die, 2),), ()), ((), (great_row(die, 2),))))
        lone = (((great,),), ())
        tone = ((-great[0], great[1]), (1, 1))
        for claim in (
            ("sure", plant, great_row(die, 2), great_row(die, 2)), ("deaf", plant, 0, 1), ("deaf", plant, 1, 0),
            ("held", lone, tone), ("held", lone, rooted(1)), ("short", lone, (), tone), ("short", plant, (0,), tone),
            ("covers", lone, (), tone), ("covers", plant, (MUTE, LOG), tone), ("most", (great_row(die, 3),) * 3, 1),
            ("most", (great_row(die, 3), great_row(die, 3)), 1),
        ):
            self.assertIs(asked(self, shows, claim, asked(self, paper, claim)), is_so(claim))


def own_shows_other(claim, thing, told):
    """Whether thing, which is of the form told, is of the other form, too, and then a PAPER."""
    if claim[0] == "held" and thing == () and not claim[1][1]:
        return own_shows(claim, thing, not told)
    if claim[0] == "covers":
        return own_shows(claim, thing, not told)
    return False


class Several(unittest.TestCase):
    def test_about(self):
        self.assertEqual(asked(self, about, HELD, WIRED), ("held", WIRED, rooted(2)))
        self.assertEqual(asked(self, about, COVERS, LONE), ("covers", LONE, (MUTE, LOG), rooted(2)))
        # Nothing else is asked.
        self.assertEqual(asked(self, about, ("deaf", BLIND, 7, 9), LONE), ("deaf", LONE, 7, 9))
        self.assertEqual(asked(self, about, ("short", BLIND, (8,), rooted(2)), LONE), ("short", LONE, (8,), rooted(2)))
        self.assertEqual(about(listed(SURE), listed(WIRED)), ("sure", WIRED, row(1), row(1)))
        refused(self, Unfit, {}, about, MOST, LONE)

    def test_not_so(self):
        self.assertEqual(asked(self, not_so, ()), ())
        self.assertEqual(asked(self, not_so, ALL_SO), ())
        self.assertEqual(asked(self, not_so, NONE_SO), (0, 1, 2, 3, 4, 5))
        self.assertEqual(asked(self, not_so, (SURE, NONE_SO[3], HELD, NONE_SO[0], SURE, NONE_SO[0])), (1, 3, 5))
        some = [claim for _, claim in claims_of(288, 10)]
        for begin in range(0, len(some) - 8, 8):
            claims = tuple(some[begin:begin + 8])
            told = tuple(place for place, claim in enumerate(claims) if not own_is_so(claim))
            self.assertEqual(asked(self, not_so, claims), told)

    def test_turned_by(self):
        self.assertEqual(asked(self, turned_by, (), WIRED), ())
        # With hand 0 wired nothing is sure of the cell any more, and 2 is free.
        self.assertEqual(asked(self, turned_by, (SURE, HELD, NONE_SO[3], DEAF, NONE_SO[1]), WIRED), (0, 1))
        self.assertEqual(asked(self, turned_by, (NONE_SO[0], MOST, SURE), BLIND), (0,))
        self.assertEqual(asked(self, turned_by, ALL_SO, BLIND), ())
        found = 0
        for die, plant in small_plants(289, 25, most_hands=2, entries=4):
            for _, other in small_plants(die.randint(0, 10 ** 6), 9, most_hands=2, entries=4):
                if len(other[0]) == len(plant[0]) and len(other[1]) == len(plant[1]):
                    claims = [some_claim(die, word, plant, CROSS) for word in WORDS[:5]]
                    claims = tuple(claim for claim in claims if claim is not None)
                    told = tuple(
                        place for place, claim in enumerate(claims)
                        if claim[0] != "most" and own_is_so(claim) != own_is_so((claim[0], other) + claim[2:])
                    )
                    self.assertEqual(asked(self, turned_by, claims, other), told)
                    found += len(told)
        self.assertGreater(found, 5)

    def test_errors_in_order(self):
        with_claim = (
            (is_so, ()), (paper, ()), (is_paper, (None,)), (shows, (None,)), (is_paper, ((1,),)), (shows, ((1,),)),
        )
        for function, more in with_claim + ((about, (WIRED,)),):
            for claim in (("loud", BLIND), ("", BLIND, 1, 2), ("loud",), ("SURE",) + SURE[1:]):
                refused(self, NoWord, {"word": claim[0]}, function, claim, *more)
            for claim in (
                SURE[:3], SURE + (1,), DEAF[:2], DEAF + (1,), HELD[:1], HELD[:2], HELD + (1,), MOST[:2], MOST + (1,),
                SHORT[:3], SHORT + (1,), COVERS[:3], COVERS + (1,), ("deaf", BLIND, 7), ("short", BLIND, (7,)),
            ):
                refused(self, Unfit, {}, function, claim, *more)
        for function, more in with_claim:
            refused(self, NoHand, {"hand": 5}, function, ("deaf", BLIND, 5, 6), *more)
            refused(self, NoHand, {"hand": 6}, function, ("deaf", BLIND, 0, 6), *more)
            refused(self, NoHand, {"hand": -1}, function, ("deaf", BLIND, -1, 0), *more)
            refused(self, NoHand, {"hand": 2}, function, ("short", BLIND, (0, 2, 3), rooted(2)), *more)
            refused(self, NoHand, {"hand": 0}, function, ("deaf", LONE, 0, 0), *more)

    def test_errors_of_several(self):
        loud, short, far = ("loud",), HELD[:2], ("deaf", BLIND, 5, 0)
        for claims, error, values in (
            ((SURE, loud, short), NoWord, {"word": "loud"}), ((SURE, short, loud), Unfit, {}),
            ((far, loud), NoHand, {"hand": 5}), ((HELD, MOST, ("most", CROSS)), Unfit, {}), ((("most",), loud), Unfit, {}),
        ):
            refused(self, error, values, not_so, claims)
            refused(self, error, values, turned_by, claims, BLIND)
        # Its own PLANT is asked, then this one, then comes the next CLAIM.
        refused(self, NoHand, {"hand": 1}, turned_by, (("deaf", BLIND, 1, 0), loud), LONE)
        refused(self, NoHand, {"hand": 1}, turned_by, (SURE, ("short", BLIND, (1,), rooted(2)), short), (table((2,)), (((), ()),)))
        refused(self, NoHand, {"hand": 4}, turned_by, (("deaf", BLIND, 4, 0),), LONE)
        # Of one without a PLANT nothing more is asked, so it turns by none.
        self.assertEqual(asked(self, turned_by, (MOST, NONE_SO[3]), LONE), ())


if __name__ == "__main__":
    unittest.main()

"""A desk [24]."""

import unittest
from fractions import Fraction

from handsunread.desk import is_request, last_plant, replies
from handsunread.errors import BadLine, NoHand, NoNumber, NoWire, Unfit
from handsunread.polys import is_tone
from tests.own import (
    asked, chain_plant, dice, great_row, great_table, number_rows, numbers, own_divided, own_table_poly, own_ways, poly,
    refused, rooted, row, table, thin_row, unit_rows,
)
from tests.test_board import Refused, own_done, within
from tests.test_learn import own_hears
from tests.test_plants import LONE, MIXED
from tests.test_staying import have_common, own_stay
from tests.test_texts import own_plant, own_poly, own_row, spoiled_text

# The example of the document.
ONE = (table((2,)), ((table((1,)), ()), ((), table((1,)))))
POLYS = (
    rooted(0), rooted(1), rooted(2), rooted(1, 2), poly(1, 0, 1), rooted(Fraction(1, 2)), rooted(0, 0, 1), (), poly(1),
    poly(2, 3), poly(0, -1), rooted(*range(6)),
)
WORDS = (
    "sure", "way", "hears", "stay", "stays", "held", "free", "poly", "plant", "lever", "gauge", "lever", "gauge", "cut", "hand",
    "drop", "undo", "undo", "deeds",
)
NAMES = {NoHand: "no NoHand", NoWire: "no NoWire", NoNumber: "no NoNumber", Unfit: "no Unfit"}


class OwnDesk:
    """The test's own desk: a first PLANT and a list of DEEDS."""

    def __init__(self, plant):
        self.first, self.deeds = plant, []

    def plant(self):
        plant = self.first
        for deed in self.deeds:
            plant = own_done(plant, deed)
        return plant

    def reply(self, request):
        word, plant = request[0], self.plant()
        rows = [part for part in request[1:] if isinstance(part, tuple)] if word in ("sure", "way", "lever", "gauge") else []
        if any(len(line) != len(plant[0]) for line in rows):
            return "no Unfit"
        if word in ("stays", "held", "free") and not is_tone(request[1]):
            return "no Unfit"
        if word in ("lever", "gauge", "cut", "hand", "drop"):
            deed = (word, request[1:]) if word == "cut" else request
            try:
                own_done(plant, deed)
            except Refused as held:
                return NAMES[held.args[0]]
            self.deeds.append(deed)
            return "done"
        if word == "undo":
            if not self.deeds:
                return "no NothingDone"
            self.deeds.pop()
            return "done"
        return self.look(plant, request)

    def look(self, plant, request):
        word = request[0]
        if word == "deeds":
            return str(len(self.deeds))
        if word == "sure":
            return "no" if own_ways(plant, request[2], request[1]) else "yes"
        if word == "way":
            found = own_ways(plant, request[1], request[2])
            return " ".join(str(hand) for hand in min(found, key=lambda way: (len(way), way))) if found else "none"
        if word == "hears":
            if max(request[1:]) >= len(plant[1]):
                return "no NoHand"
            return "yes" if request[1:] in own_hears(plant) else "no"
        if word == "poly":
            return own_poly(row(*own_table_poly(number_rows(plant[0]))))
        if word == "plant":
            return own_plant(plant).replace("\n", ", ")
        held = own_stay(plant)
        if word == "stay":
            return own_poly(row(*held))
        if word == "stays":
            return "no" if own_divided(held, numbers(request[1])) else "yes"
        return "yes" if have_common(held, numbers(request[1])) == (word == "held") else "no"


def some_request(die, plant, most):
    """A request as a tuple, its word first; now and then of a hand, a wire or a length that there is not."""
    word, many = die.choice(WORDS), len(plant[0]) + (die.randint(0, 9) == 0)
    hand = die.randint(0, len(plant[1]) - (0 if die.randint(0, 4) == 0 or not plant[1] else 1))
    if word in ("sure", "way"):
        return word, unit_rows(die, 1, many)[0], thin_row(die, many, 2)
    if word == "hears":
        return word, hand, die.randint(0, max(0, len(plant[1]) - 1))
    if word in ("stays", "held", "free"):
        return word, die.choice(POLYS)
    if word in ("lever", "gauge"):
        return word, hand, unit_rows(die, 1, many)[0]
    if word == "cut":
        return word, hand, die.choice(("lever", "gauge")), die.choice((0, 0, 0, 1, 2))
    if word == "drop":
        return word, hand if len(plant[1]) > 1 or die.randint(0, 3) == 0 else 9
    return ("stay",) if word == "hand" and len(plant[1]) >= most else (word,)


def own_text(request):
    word = request[0]
    if word in ("sure", "way"):
        return word + " " + own_row(request[1]) + (" of " if word == "sure" else " to ") + own_row(request[2])
    if word == "hears":
        return "hears %d of %d" % request[1:]
    if word in ("stays", "held", "free"):
        return word + " " + own_poly(request[1])
    if word in ("lever", "gauge"):
        return "%s %d %s" % (word, request[1], own_row(request[2]))
    if word == "cut":
        return "cut %d %s %d" % request[1:]
    return "drop %d" % request[1] if word == "drop" else word


class IsRequest(unittest.TestCase):
    def test_requests(self):
        for line in (
            "sure 1 of 1/2", "sure - of -", "sure 1 2 of 1", "sure 0 -1/2 of 10 3", "way 1 to 1", "way - to -", "way 1 2 to -3/4 5",
            "hears 0 of 0", "hears 10 of 999999999", "stay", "stays x", "stays 0", "held 7", "free -x^2 + 1/2 x - 3", "stays x^40",
            "poly", "plant", "lever 0 1", "lever 12 1 2/3 -4", "gauge 0 -", "gauge 999999999 1", "cut 0 lever 0",
            "cut 999999999 gauge 999999999", "hand", "drop 0", "drop 10", "undo", "deeds", "sure " + "1" * 400 + " of 1",
        ):
            self.assertIs(asked(self, is_request, line), True, line)

    def test_what_is_none(self):
        for line in (
            "", " ", "-", "sure", "sure ", "sure 1", "sure 1 of", "sure of 1", "sure 1 of ", "sure  of 1", "sure 1 to 1", "sure 1 1",
            "sure 1  of 1", "sure 1 of  1", "sure 1 of 1 ", " sure 1 of 1", "sure 1 of 1 of 1", "sure  1 of 1", "Sure 1 of 1",
            "sure 1 of ?", "sure 2/4 of 1", "sure x of 1", "sure 1, 2 of 1", "sure 1 of 1\n", "sure 1\nof 1", "way 1 of 1",
            "way 1 to", "way to 1", "way 1", "way 1 to 1 to 1", "ways 1 to 1", "sureof 1", "hears 0", "hears 0 of", "hears of 0",
            "hears 0 to 1", "hears 00 of 1", "hears 0 of 01", "hears -1 of 0", "hears 0 of -1", "hears 1000000000 of 0",
            "hears 0 of 1000000000", "hears 0 of 1 2", "hears a of 0", "hears 0  of 1", "hears 1/2 of 0", "hears 0 of 1 of 2", "stay ",
            " stay", "stay x", "stays", "stays ", "stays  x", "stays 1 x", "stays x^41", "stays 2/4", "stays ?", "held", "held x x",
            "free", "free x ", "poly 1", "poly ", "Poly", "plant ", "plants", "lever", "lever 0", "lever 0 ", "lever 0  1", "lever  0 1",
            "lever 00 1", "lever -1 1", "lever 1000000000 1", "lever 0 ?", "lever a 1", "lever 0 1, 2", "gauge", "gauge 0", "gauge 01 1",
            "gauge 0 1 ", "cut", "cut 0", "cut 0 lever", "cut 0 wheel 1", "cut 0 lever 00", "cut 00 lever 0", "cut 0 lever -1",
            "cut -1 lever 0", "cut 0 lever 0 0", "cut lever 0 0", "cut 0  lever 0", "cut 1000000000 lever 0",
            "cut 0 gauge 1000000000", "cut 0 levers 0", "hand ", "hand 0", "hands", "drop", "drop ", "drop 00", "drop 01", "drop -1",
            "drop 1000000000", "drop 0 1", "drop x", "undo ", "undo 1", "redo", "deeds ", "deed", "deeds 0", "stay\n", "\n", "stay\nstay",
            "join 0 1", "cell 0 0 1", "sure " + "1" * 401 + " of 1",
        ):
            self.assertIs(asked(self, is_request, line), False, line)

    def test_one_sign_off(self):
        found = 0
        for line in ("sure 1 0 of 2/3", "way - to -", "hears 10 of 2", "stays x - 1", "lever 1 0", "cut 1 lever 2", "drop 10", "hand"):
            for other in spoiled_text(line):
                if is_request(other):
                    found += 1
                    self.assertEqual(len(replies(LONE, other)), 1)
                else:
                    refused(self, BadLine, {"number": self.first_bad(other)}, replies, LONE, other)
        self.assertGreater(found, 30)

    def first_bad(self, text):
        """The number of the first line that is no request."""
        return [is_request(line) for line in text.split("\n")].index(False)


class Replies(unittest.TestCase):
    def test_beside_an_own_desk(self):
        found = {}
        for seed in range(60):
            die = dice(430 + seed)
            plant = chain_plant(die, die.randint(1, 3), die.randint(0, 3))
            desk, lines, told = OwnDesk(plant), [], []
            while len(lines) < 25:
                request = some_request(die, desk.plant(), 3)
                if request[0] in ("lever", "gauge") and desk.plant()[1]:
                    # Small ones alone.
                    later = OwnDesk(desk.plant())
                    later.reply(request)
                    if not within(later.plant()):
                        continue
                lines.append(own_text(request))
                told.append(desk.reply(request))
                kind = told[-1] if told[-1] in ("yes", "no", "done", "none") or told[-1].startswith("no ") else "other"
                found[(request[0], kind)] = found.get((request[0], kind), 0) + 1
            text = "\n".join(lines)
            self.assertEqual(replies(plant, text), told, (plant, text))
            self.assertEqual(last_plant(plant, text), desk.plant())
        asked(self, replies, plant, text)
        asked(self, last_plant, plant, text)
        for kind in (
            ("sure", "yes"), ("sure", "no"), ("sure", "no Unfit"), ("way", "none"), ("way", "other"), ("way", "no Unfit"),
            ("hears", "yes"), ("hears", "no"), ("hears", "no NoHand"), ("stay", "other"), ("stays", "yes"), ("stays", "no"),
            ("stays", "no Unfit"), ("held", "yes"), ("held", "no"), ("held", "no Unfit"), ("free", "yes"), ("free", "no"),
            ("free", "no Unfit"), ("poly", "other"), ("plant", "other"), ("lever", "done"), ("lever", "no NoHand"),
            ("lever", "no Unfit"), ("gauge", "done"), ("gauge", "no NoHand"), ("cut", "done"), ("cut", "no NoHand"),
            ("cut", "no NoWire"), ("hand", "done"), ("drop", "done"), ("drop", "no NoHand"), ("undo", "done"),
            ("undo", "no NothingDone"), ("deeds", "other"),
        ):
            self.assertGreater(found.get(kind, 0), 1, kind)

    def test_edges(self):
        for text, told in (
            ("", []), ("hand\nundo\nundo\ndeeds", ["done", "done", "no NothingDone", "0"]), ("stay", ["x - 2"]),
            ("hears 0 of 0\nhears 1 of 0\nhears 0 of 1", ["no", "yes", "no"]), ("hears 2 of 5\nhears 0 of 5", ["no NoHand"] * 2),
            # What does not fit is refused ahead of all else.
            ("lever 7 1 2\ngauge 7 -\nlever 7 1", ["no Unfit", "no Unfit", "no NoHand"]), ("sure - of 1\nway 1 to -", ["no Unfit"] * 2),
            ("stays 0\nstays 2\nstays 2 x - 4\nstays x - 2", ["no Unfit"] * 3 + ["yes"]),
            ("held x - 2\nfree x - 2\nheld x^2 - 4\nstays x^2 - 4\nfree x", ["yes", "no", "yes", "no", "yes"]),
            ("held 1\nfree 0\nfree -x", ["no Unfit"] * 3), ("cut 0 gauge 0\ncut 2 gauge 0\ncut 0 lever 0\nplant", [
                "no NoWire", "no NoHand", "done", "cell 2, hand, hand, gauge 1",
            ]),
            ("drop 2\ndrop 0\ndrop 1\ndrop 0\nplant\nstay\ndeeds", ["no NoHand", "done", "no NoHand", "done", "cell 2", "x - 2", "2"]),
            ("gauge 0 1\nstay\nsure 1 of 1\nway 1 to 1\nundo\nway 1 to 1", ["done", "1", "no", "0", "done", "none"]),
            ("poly\nlever 0 -1/2\nplant", ["x - 2", "done", "cell 2, hand, lever 1, lever -1/2, hand, gauge 1"]),
        ):
            self.assertEqual(asked(self, replies, ONE, text), told, text)
        self.assertEqual(asked(self, last_plant, ONE, ""), ONE)
        self.assertEqual(asked(self, last_plant, ONE, "lever 0 1 2\nstay\ndrop 5"), ONE)
        self.assertEqual(asked(self, last_plant, MIXED, "drop 0\ncut 1 gauge 0")[1], ((table((1, 1)), ()), ((), table((2, 0))), ((), ())))
        self.assertEqual(asked(self, replies, LONE, "hears 0 of 0\nstay\nsure 1 of 1\nplant"), ["no NoHand", "x - 2", "yes", "cell 2"])
        # sure asks the READING first, way the DIFFERENCE.
        chain = (table((0, 0), (0, 0)), ((table((0, 1)), table((1, 0))),))
        self.assertEqual(asked(self, replies, chain, "sure 0 1 of 1 0\nsure 1 0 of 0 1\nway 1 0 to 0 1\nway 0 1 to 1 0"), ["no", "yes", "0", "none"])
        # WAYS over several hands.
        relay = (table((0, 0, 0), (0, 0, 0), (0, 0, 0)), ((table((0, 0, 1)), table((0, 1, 0))), (table((0, 1, 0)), table((1, 0, 0)))))
        self.assertEqual(asked(self, replies, relay, "way 1 0 0 to 0 0 1\nhears 0 of 1\nhears 1 of 0"), ["1 0", "yes", "no"])

    def test_bad_lines(self):
        for text, number in (
            ("\n", 0), ("stay\n", 1), ("\nstay", 0), ("stay\n\nstay", 1), ("stay\nstays 2/4 x", 1), ("drop 9\nundo\nredo", 2),
            ("sure 1 of 1 \nhand", 0), ("hand\n" * 59 + "hands", 59), (" ", 0), ("stay\nstay ", 1), ("hears 0 of 0\nhears 00 of 0\nx", 1),
        ):
            refused(self, BadLine, {"number": number}, replies, ONE, text)
            refused(self, BadLine, {"number": number}, last_plant, ONE, text)
        self.assertEqual(replies(LONE, "\n".join(["hand", "drop 0"] * 30)), ["done"] * 60)

    def test_great_numbers(self):
        die = dice(431)
        great = great_row(die, 2)
        plant = (great_table(die, 2, 2), ())
        text = "hand\nlever 0 %s\ngauge 0 %s\npoly\nplant\nsure 1 0 of 0 1\nstay\nfree x" % (own_row(great), own_row(great))
        desk, told = OwnDesk(plant), []
        for request in (
            ("hand",), ("lever", 0, great), ("gauge", 0, great), ("poly",), ("plant",), ("sure", row(1, 0), row(0, 1)), ("stay",),
            ("free", rooted(0)),
        ):
            told.append(desk.reply(request))
        self.assertEqual(asked(self, replies, plant, text), told)
        self.assertEqual(asked(self, last_plant, plant, text), desk.plant())


if __name__ == "__main__":
    unittest.main()

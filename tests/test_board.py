"""A Board of deeds [23]."""

import unittest
from fractions import Fraction

from handsunread.board import Board
from handsunread.errors import NoHand, NoNumber, NothingDone, NoWire, Unfit
from handsunread.plants import is_plant
from handsunread.staying import stay
from handsunread.sure import is_sure
from handsunread.ways import way
from tests.own import (
    chain_plant, dice, great_row, great_table, listed, numbers, own_table_poly, own_ways, pair, rooted, row, table,
    thin_plant, thin_row, unit_rows,
)
from tests.test_plants import LONE, MIXED, own_wires
from tests.test_staying import have_common, own_stay

# The example of the document.
TWO = (table((1, 0), (1, 1)), (((), ()), ((), ())))
START, READING = row(0, 1), row(1, 0)


class Refused(Exception):
    """A deed that the test's own sums cannot do, with what it raises."""


def own_done(plant, deed):
    rows, hands = [list(line) for line in plant[0]], [[list(levers), list(gauges)] for levers, gauges in plant[1]]
    word, many = deed[0], len(rows)

    def ask_hand(hand):
        if hand not in range(len(hands)):
            raise Refused(NoHand, {"hand": hand})

    if word == "cell":
        for place in deed[1:3]:
            if place not in range(many):
                raise Refused(NoNumber, {"number": place})
        rows[deed[1]][deed[2]] = deed[3]
    elif word in ("lever", "gauge"):
        ask_hand(deed[1])
        hands[deed[1]][("lever", "gauge").index(word)].append(deed[2])
    elif word == "cut":
        ask_hand(deed[1][0])
        if deed[1] not in own_wires(plant):
            raise Refused(NoWire, {"wire": deed[1]})
        del hands[deed[1][0]][("lever", "gauge").index(deed[1][1])][deed[1][2]]
    elif word == "hand":
        hands.append([[], []])
    elif word == "drop":
        ask_hand(deed[1])
        del hands[deed[1]]
    else:
        for hand in deed[1]:
            ask_hand(hand)
        if not deed[1]:
            raise Refused(Unfit, {})
        joined = [[line for hand in deed[1] for line in hands[hand][kind]] for kind in (0, 1)]
        hands = [
            joined if at == deed[1][0] else own for at, own in enumerate(hands) if at == deed[1][0] or at not in deed[1]
        ]
    return tuple(tuple(line) for line in rows), tuple((tuple(levers), tuple(gauges)) for levers, gauges in hands)


def own_behind(plant, deeds):
    for deed in deeds:
        plant = own_done(plant, deed)
    return plant


def some_deed(die, plant, wrong):
    """A DEED that can be done; if it may be wrong, now and then one that cannot."""
    many, hands, out = len(plant[0]), len(plant[1]), wrong and die.randint(0, 2) == 0
    word = die.choice(("cell", "lever", "gauge", "lever", "gauge", "cut", "hand", "drop", "join"))
    hand = die.choice((-1, hands, hands + 3)) if out or not hands else die.randrange(hands)
    if word == "cell":
        places = [die.choice((-1, many)) if out and die.randint(0, 1) else die.randrange(many) for _ in range(2)]
        return word, places[0], places[1], pair(Fraction(die.randint(-2, 2), die.choice((1, 2))))
    if word in ("lever", "gauge"):
        return word, hand, unit_rows(die, 1, many)[0]
    if word == "cut":
        return word, die.choice([(hand, die.choice(("lever", "gauge")), die.choice((-1, 9)))] if out or not own_wires(plant) else own_wires(plant))
    if word == "hand":
        return (word,)
    if word == "drop":
        return word, hand
    lot = tuple(sorted(die.sample(range(hands), die.randint(0 if out else min(1, hands), hands))))
    return word, lot + ((hand,) if hand >= hands and out else ())


def within(plant):
    """Whether a PLANT has few hands and wires, so that all RULES of 0 and 1 are few."""
    sizes = [(len(levers), len(gauges)) for levers, gauges in plant[1]]
    return len(sizes) <= 3 and max([0] + [max(size) for size in sizes]) <= 3 and sum(a * b for a, b in sizes) <= 6


def some_record(die, plant, many):
    """DEEDS that can be done one after the other, each PLANT of which is small."""
    deeds = []
    while len(deeds) < many:
        deed = some_deed(die, plant, False)
        try:
            later = own_done(plant, deed)
        except Refused:
            continue
        if within(later):
            plant = later
            deeds.append(deed)
    return deeds


def boards(seed, many, deeds=6, make=chain_plant):
    die = dice(seed)
    while many:
        plant = make(die, die.randint(1, 3), die.randint(0, 2))
        if within(plant):
            record = some_record(die, plant, die.randint(0, deeds))
            board = Board(plant)
            for deed in record:
                board.do(deed)
            many -= 1
            yield die, plant, record, board


def state(board):
    return board.plant(), board.first(), board.deeds(), len(board), [board.behind(m) for m in range(len(board) + 1)]


def own_free(plant, tone):
    return not have_common(own_stay(plant), numbers(tone))


class Deeds(unittest.TestCase):
    def refused(self, error, values, board, call, *arguments, **named):
        """The call raises this error with these values, and the Board stays as it is, with what may be done again."""
        ahead = state(board)
        with self.assertRaises(error) as held:
            call(*arguments, **named)
        self.assertIs(held.exception.__class__, error)
        self.assertEqual(repr(vars(held.exception)), repr(values))
        self.assertEqual(state(board), ahead)

    def by_method(self, board, deed):
        """Each DEED by the method of its name."""
        methods = {
            "cell": board.cell, "lever": board.lever, "gauge": board.gauge, "cut": board.cut, "hand": board.hand,
            "drop": board.drop, "join": board.join,
        }
        return methods[deed[0]](*deed[1:])

    def test_all_kinds(self):
        found = {}
        for seed in range(100):
            die = dice(32000 + seed)
            plant = thin_plant(die, die.randint(1, 3), die.randint(0, 3), most=2)
            first, boards_of = plant, [Board(plant), Board(listed(plant)), Board(plant=plant)]
            record = []
            for _ in range(12):
                deed = some_deed(die, plant, True)
                calls = (
                    lambda: self.by_method(boards_of[0], deed), lambda: boards_of[1].do(listed(deed)),
                    lambda: boards_of[2].do(deed=deed),
                )
                try:
                    plant = own_done(plant, deed)
                except Refused as held:
                    error, values = held.args
                    for board, call in zip(boards_of, calls):
                        self.refused(error, values, board, call)
                    found[error] = found.get(error, 0) + 1
                else:
                    record.append(deed)
                    for call in calls:
                        self.assertIsNone(call())
                    found[deed[0]] = found.get(deed[0], 0) + 1
                for board in boards_of:
                    self.assertEqual(board.plant(), plant)
                    self.assertEqual(repr(board.deeds()), repr(record))
                    self.assertEqual((len(board), board.first()), (len(record), first))
            self.assertIs(is_plant(boards_of[0].plant()), True)
            for m in range(len(record) + 1):
                told = own_behind(first, record[:m])
                self.assertEqual([board.behind(m) for board in boards_of], [told] * 3)
        self.assertEqual(set(found), {NoHand, NoWire, NoNumber, Unfit, "cell", "lever", "gauge", "cut", "hand", "drop", "join"})
        self.assertGreater(min(found.values()), 5)

    def test_by_names_and_lists(self):
        board, other = Board(MIXED), Board(listed(MIXED))
        board.cell(i=1, j=0, x=(7, 2))
        other.cell(1, 0, [7, 2])
        board.lever(hand=3, row=row(1, 5))
        other.lever(3, [[1, 1], [5, 1]])
        board.gauge(hand=1, row=row(2, 3))
        other.gauge(1, [(2, 1), [3, 1]])
        board.cut(wire=(0, "lever", 0))
        other.cut([0, "lever", 0])
        board.join(lot=(1, 3))
        other.join([1, 3])
        board.drop(hand=0)
        other.drop(0)
        self.assertEqual(repr(state(board)), repr(state(other)))
        self.assertEqual(board.behind(m=2), other.behind(2))
        self.assertEqual(board.plant()[1], ((table((1, 1), (1, 5)), table((2, 3))), ((), table((1, -1), (2, 0)))))
        self.assertEqual(board.deeds()[3:], [("cut", (0, "lever", 0)), ("join", (1, 3)), ("drop", 0)])
        for told in (board, other):
            self.assertIs(told.is_sure(start=row(1, 0), reading=row(0, 1)), told.is_sure([[1, 1], [0, 1]], [(0, 1), (1, 1)]))
            self.assertEqual(told.way(start=row(1, 0), reading=row(0, 1)), told.way([[1, 1], [0, 1]], [(0, 1), (1, 1)]))
            self.assertEqual(told.turns(start=row(1, 0), reading=row(0, 1)), told.turns([[1, 1], [0, 1]], [(0, 1), (1, 1)]))
            self.assertEqual(told.free_turns(tone=rooted(1)), told.free_turns([[-1, 1], [1, 1]]))
            self.assertEqual(told.blamed(start=row(1, 0), reading=row(1, 1)), told.blamed([[1, 1], [0, 1]], [[1, 1], [1, 1]]))
            self.assertIs(told.is_plan(deeds=(("drop", 0), ("drop", 0))), True)
            self.assertIs(told.is_plan([["drop", 0], ["drop", 0]]), True)
            self.assertIs(told.is_plan([["drop", 0], ["drop", 0], ["cut", [0, "gauge", 0]]]), False)
        self.assertEqual(repr(state(board)), repr(state(other)))

    def test_errors(self):
        board = Board(MIXED)
        for i, j, number in ((2, 0, 2), (-1, 5, -1), (0, 2, 2), (1, -1, -1), (9, 9, 9)):
            self.refused(NoNumber, {"number": number}, board, board.cell, i, j, (1, 1))
            self.refused(NoNumber, {"number": number}, board, board.do, ("cell", i, j, (1, 1)))
        for hand in (4, -1):
            self.refused(NoHand, {"hand": hand}, board, board.lever, hand, row(1, 1))
            self.refused(NoHand, {"hand": hand}, board, board.gauge, hand, row(1, 1))
            self.refused(NoHand, {"hand": hand}, board, board.drop, hand)
            self.refused(NoHand, {"hand": hand}, board, board.cut, (hand, "lever", 0))
            self.refused(NoHand, {"hand": hand}, board, board.join, (0, hand, 7))
            self.refused(NoHand, {"hand": hand}, board, board.do, ("drop", hand))
        for wire in ((0, "lever", 2), (1, "gauge", 0), (2, "gauge", -1)):
            self.refused(NoWire, {"wire": wire}, board, board.cut, wire)
            self.refused(NoWire, {"wire": wire}, board, board.cut, list(wire))
            self.refused(NoWire, {"wire": wire}, board, board.do, ["cut", list(wire)])
        self.refused(Unfit, {}, board, board.join, ())
        self.refused(Unfit, {}, board, board.do, ("join", ()))
        for m in (1, -1, 40):
            self.refused(NoNumber, {"number": m}, board, board.behind, m)
        board.hand()
        self.assertEqual(board.behind(1), board.plant())
        self.assertEqual(board.behind(0), MIXED)
        self.refused(NoNumber, {"number": 2}, board, board.behind, 2)
        self.assertIs(len(board), 1)

    def test_without_deeds(self):
        for plant in (LONE, MIXED):
            board = Board(plant)
            self.assertEqual(state(board), (plant, plant, [], 0, [plant]))
            self.refused(NothingDone, {}, board, board.undo)
            self.refused(NothingDone, {}, board, board.redo)
            many = len(plant[0])
            self.assertEqual(board.turns(row(*[1] * many), row(*[1] * many)), [])
            self.assertEqual(board.free_turns(rooted(2)), [])
            self.assertIs(board.is_plan(()), True)
        board = Board(LONE)
        self.refused(Unfit, {}, board, board.blamed, row(1), row(1))
        self.assertEqual(Board(MIXED).blamed(row(0, 1), row(1, 0)), [])

    def test_what_is_handed_in_is_copied(self):
        plant, line, wire, deed = listed(MIXED), listed(row(1, 2)), [3, "lever", 0], ["gauge", 3, listed(row(5, 6))]
        board = Board(plant)
        board.lever(3, line)
        board.do(deed)
        board.cut(wire)
        told = repr(state(board))
        plant[0][0][0][0] = 99
        plant[1].clear()
        line.clear()
        wire[0] = 8
        deed[2][0] = 7
        self.assertEqual(repr(state(board)), told)
        for found in (board.deeds(), board.turns(row(1, 0), row(0, 1)), board.free_turns(rooted(1))):
            found.append("more")
        self.assertEqual(repr(state(board)), told)
        self.assertIsNot(board.deeds(), board.deeds())
        # Two Boards of one PLANT go their own ways.
        other = Board(board.plant())
        other.hand()
        self.assertEqual(repr(state(board)), told)


class Undone(unittest.TestCase):
    def test_beside_an_own_list(self):
        for seed in range(25):
            die = dice(370 + seed)
            first = plant = chain_plant(die, die.randint(1, 3), die.randint(0, 2))
            board, record, undone = Board(plant), [], []
            for _ in range(40):
                act = die.choice(("do", "do", "undo", "undo", "redo", "redo", "plan"))
                if act == "do":
                    deed = some_deed(die, plant, True)
                    try:
                        plant = own_done(plant, deed)
                        record, undone = record + [deed], []
                        board.do(deed)
                    except Refused as held:
                        # One that raises leaves what was undone.
                        with self.assertRaises(held.args[0]):
                            board.do(deed)
                elif act == "plan":
                    plan = [some_deed(die, plant, True) for _ in range(die.randint(0, 3))]
                    try:
                        own_behind(plant, plan)
                        told = True
                    except Refused:
                        told = False
                    self.assertIs(board.is_plan(tuple(plan)), told)
                elif act == "undo":
                    if record:
                        undone.append(record.pop())
                        self.assertEqual(repr(board.undo()), repr(undone[-1]))
                    else:
                        with self.assertRaises(NothingDone):
                            board.undo()
                else:
                    if undone:
                        record.append(undone.pop())
                        self.assertEqual(repr(board.redo()), repr(record[-1]))
                    else:
                        with self.assertRaises(NothingDone):
                            board.redo()
                plant = own_behind(first, record)
                self.assertEqual((board.plant(), board.deeds(), len(board)), (plant, record, len(record)))
                self.assertEqual(board.first(), first)

    def test_undo_then_redo(self):
        for _, _, record, board in boards(395, 30):
            told = state(board)
            for many in range(1, len(record) + 1):
                undone = [board.undo() for _ in range(many)]
                self.assertEqual(undone, record[::-1][:many])
                self.assertEqual(len(board), len(record) - many)
                self.assertEqual([board.redo() for _ in range(many)], undone[::-1])
                self.assertEqual(state(board), told)

    def test_what_ends_redo(self):
        board = Board(MIXED)
        board.hand()
        board.drop(4)
        board.undo()
        # Not a deed that raises, not is_plan, not a look.
        for call in (lambda: board.drop(9), lambda: board.join(()), lambda: board.cut((0, "lever", 7)), lambda: board.cell(5, 0, (1, 1))):
            with self.assertRaises((NoHand, Unfit, NoWire, NoNumber)):
                call()
        self.assertIs(board.is_plan((("hand",), ("drop", 0))), True)
        self.assertIs(board.is_plan((("drop", 9),)), False)
        board.turns(row(1, 0), row(0, 1))
        self.assertEqual(board.redo(), ("drop", 4))
        with self.assertRaises(NothingDone):
            board.redo()
        board.undo()
        board.undo()
        board.hand()
        with self.assertRaises(NothingDone):
            board.redo()
        self.assertEqual(board.deeds(), [("hand",)])


class Looks(unittest.TestCase):
    def test_sure_and_way(self):
        for die, _, _, board in boards(396, 40):
            plant = board.plant()
            start, reading = unit_rows(die, 1, len(plant[0]))[0], thin_row(die, len(plant[0]), 2)
            self.assertIs(board.is_sure(start, reading), is_sure(plant, start, reading))
            self.assertIs(board.is_sure(start, reading), not own_ways(plant, start, reading))
            self.assertEqual(board.way(start, reading), way(plant, start, reading))

    def test_turns(self):
        turned, freed = set(), set()
        for die, plant, record, board in boards(397, 50, deeds=7):
            plants = [own_behind(plant, record[:m]) for m in range(len(record) + 1)]
            start, reading = unit_rows(die, 1, len(plant[0]))[0], unit_rows(die, 1, len(plant[0]))[0]
            sure = [not own_ways(one, start, reading) for one in plants]
            told = [m for m in range(1, len(plants)) if sure[m] != sure[m - 1]]
            self.assertEqual(board.turns(start, reading), told)
            turned.add(len(told))
            for tone in (rooted(0), rooted(1), rooted(1, 2)):
                free = [own_free(one, tone) for one in plants]
                told = [m for m in range(1, len(plants)) if free[m] != free[m - 1]]
                self.assertEqual(board.free_turns(tone), told)
                freed.add(len(told))
            for m in range(1, len(plants)):
                word = record[m - 1][0]
                if word in ("lever", "gauge", "join", "hand"):
                    self.assertLessEqual(sure[m], sure[m - 1])
                if word in ("cut", "drop", "hand"):
                    self.assertGreaterEqual(sure[m], sure[m - 1])
        self.assertGreater(min(len(turned), len(freed)), 2)

    def test_blamed(self):
        found = {}
        for die, plant, record, board in boards(398, 500, deeds=8):
            start, reading = unit_rows(die, 1, len(plant[0]))[0], unit_rows(die, 1, len(plant[0]))[0]
            if not own_ways(board.plant(), start, reading):
                with self.assertRaises(Unfit):
                    board.blamed(start, reading)
                found[None] = found.get(None, 0) + 1
                continue
            told = []
            for place, deed in enumerate(record):
                if deed[0] in ("cell", "lever", "gauge"):
                    try:
                        later = own_behind(plant, record[:place] + record[place + 1:])
                    except Refused:
                        continue
                    if not own_ways(later, start, reading):
                        told.append(place)
            ahead = state(board)
            self.assertEqual(board.blamed(start, reading), told)
            self.assertEqual(state(board), ahead)
            found[len(told)] = found.get(len(told), 0) + 1
        self.assertGreater(min(found.get(kind, 0) for kind in (None, 0, 1, 2)), 3)

    def test_blamed_at_the_edges(self):
        board = Board(TWO)
        board.gauge(0, row(0, 1))
        board.lever(1, row(1, 0))
        board.join((0, 1))
        self.assertEqual(board.blamed(START, READING), [0, 1])
        self.assertEqual(board.turns(START, READING), [3])
        # Without the first lever there is none that the cut could take; what is cut is not blamed.
        board = Board((table((1,)), ((table((1,)), ()),)))
        board.lever(0, row(1))
        board.cut((0, "lever", 1))
        board.gauge(0, row(1))
        self.assertEqual(board.blamed(row(1), row(1)), [2])
        # Without the first gauge the cut takes the second one.
        board = Board((table((1,)), ((table((1,)), ()),)))
        board.gauge(0, row(0))
        board.gauge(0, row(1))
        board.cut((0, "gauge", 0))
        self.assertEqual(board.blamed(row(1), row(1)), [0, 1])
        # A hand that is dropped, a FRACTION in the table that leads on.
        board = Board((table((0, 0), (0, 0)), ((table((1, 0)), ()), ((), ()))))
        board.gauge(0, row(0, 1))
        board.cell(1, 0, (1, 1))
        board.drop(1)
        self.assertEqual(board.blamed(row(1, 0), row(1, 0)), [0, 1])
        self.assertEqual(board.turns(row(1, 0), row(1, 0)), [2])

    def test_is_plan(self):
        found = {True: 0, False: 0}
        for die, _, _, board in boards(399, 60):
            plant, deeds = board.plant(), []
            for _ in range(die.randint(0, 4)):
                deeds.append(some_deed(die, plant, die.randint(0, 2) == 0))
                try:
                    plant = own_done(plant, deeds[-1])
                except Refused:
                    pass
            try:
                own_behind(board.plant(), deeds)
                told = True
            except Refused:
                told = False
            ahead = state(board)
            self.assertIs(board.is_plan(tuple(deeds)), told)
            self.assertEqual(state(board), ahead)
            found[told] += 1
        self.assertGreater(min(found.values()), 10)
        board = Board(LONE)
        self.assertIs(board.is_plan((("hand",), ("lever", 0, row(1)), ("cut", (0, "lever", 0)), ("drop", 0))), True)
        self.assertIs(board.is_plan((("hand",), ("lever", 0, row(1)), ("cut", (0, "lever", 0)), ("drop", 1))), False)
        self.assertIs(board.is_plan((("join", ()),)), False)
        self.assertIs(board.is_plan((("cell", 0, 1, (1, 1)),)), False)

    def test_guarantees_of_free(self):
        for _, plant, record, board in boards(400, 40, deeds=5):
            for m in range(1, len(record) + 1):
                ahead, behind = stay(board.behind(m - 1)), stay(board.behind(m))
                for tone in (rooted(0), rooted(1)):
                    free = [not have_common(numbers(one), numbers(tone)) for one in (ahead, behind)]
                    if record[m - 1][0] in ("lever", "gauge", "join"):
                        self.assertLessEqual(free[0], free[1])
                    if record[m - 1][0] in ("cut", "drop"):
                        self.assertGreaterEqual(free[0], free[1])
            self.assertEqual(board.first(), plant)

    def test_forty_deeds(self):
        board = Board((table((1, 0), (0, 2)), (((), ()),)))
        for many in range(20):
            board.lever(0, row(many, 1))
            board.cut((0, "lever", 0))
        self.assertEqual((len(board), board.plant(), board.behind(0)), (40, board.first(), board.first()))
        self.assertEqual(board.turns(row(1, 0), row(1, 0)), [])
        self.assertEqual(board.free_turns(rooted(1)), [])
        for _ in range(40):
            board.undo()
        self.assertEqual(len([board.redo() for _ in range(40)]), 40)
        die = dice(401)
        great = (great_table(die, 4, 4), ())
        board = Board(great)
        board.hand()
        board.lever(0, great_row(die, 4))
        board.gauge(0, great_row(die, 4))
        board.cell(3, 3, (10 ** 40, 999983))
        start, reading = great_row(die, 4), great_row(die, 4)
        self.assertEqual((board.turns(start, reading), board.blamed(start, reading)), ([3], [1, 2]))
        tone = row(*own_table_poly([[Fraction(*part) for part in line] for line in great[0]]))
        self.assertEqual(board.free_turns(tone), [3])


if __name__ == "__main__":
    unittest.main()

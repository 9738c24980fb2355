"""A Board: a PLANT that is changed deed by deed, and what each deed did to what is sure."""

from handsunread.basics import fixed
from handsunread.errors import NoHand, NoNumber, NothingDone, NoWire, Unfit
from handsunread.plants import check_hand, joined_hands
from handsunread.sheets import with_part
from handsunread.sure import is_sure
from handsunread.tables import check_places
from handsunread.ways import way
from handsunread.wires import first_bar, with_offers, without_wire

# The deeds of the kinds that can be blamed: those of a FRACTION in the table, of a lever and of a gauge.
BLAMED = ("cell", "lever", "gauge")


def done(plant, deed):
    """The PLANT that the DEED makes of this one; raises what the DEED raises."""
    word = deed[0]
    if word == "cell":
        row, column, part = deed[1:]
        check_places((row, column), len(plant[0]))
        return with_part(plant[0], (row, column), part), plant[1]
    if word == "cut":
        return without_wire(plant, deed[1])
    if word == "hand":
        return plant[0], plant[1] + (((), ()),)
    if word == "drop":
        hand = deed[1]
        check_hand(plant, hand)
        return plant[0], plant[1][:hand] + plant[1][hand + 1:]
    if word == "join":
        return joined_hands(plant, deed[1])
    return with_offers(plant, ((deed[1], word, deed[2]),))


def after_all(plant, deeds):
    """The PLANT that these DEEDS make of this one; None if one of them cannot be done."""
    for deed in deeds:
        try:
            plant = done(plant, deed)
        except (NoHand, NoWire, NoNumber, Unfit):
            return None
    return plant


def changes(told):
    """The places from 1 on at which something else is told than at the place ahead."""
    return [place for place in range(1, len(told)) if told[place] != told[place - 1]]


class Board:
    """A PLANT, the record of the DEEDS that led to it, and those that were undone."""

    def __init__(self, plant):
        # The PLANT behind each number of DEEDS, so that nothing need be done again.
        self._plants = [fixed(plant)]
        self._done = []
        self._undone = []

    def plant(self):
        return self._plants[-1]

    def first(self):
        return self._plants[0]

    def deeds(self):
        return list(self._done)

    def __len__(self):
        return len(self._done)

    def behind(self, m):
        if not 0 <= m <= len(self._done):
            raise NoNumber(m)
        return self._plants[m]

    def cell(self, i, j, x):
        self.do(("cell", i, j, x))

    def lever(self, hand, row):
        self.do(("lever", hand, row))

    def gauge(self, hand, row):
        self.do(("gauge", hand, row))

    def cut(self, wire):
        self.do(("cut", wire))

    def hand(self):
        self.do(("hand",))

    def drop(self, hand):
        self.do(("drop", hand))

    def join(self, lot):
        self.do(("join", lot))

    def do(self, deed):
        deed = fixed(deed)
        self._plants.append(done(self.plant(), deed))
        self._done.append(deed)
        self._undone = []

    def undo(self):
        if not self._done:
            raise NothingDone()
        deed = self._done.pop()
        self._plants.pop()
        self._undone.append(deed)
        return deed

    def redo(self):
        if not self._undone:
            raise NothingDone()
        deed = self._undone.pop()
        self._plants.append(done(self.plant(), deed))
        self._done.append(deed)
        return deed

    def is_sure(self, start, reading):
        return is_sure(self.plant(), start, reading)

    def way(self, start, reading):
        return way(self.plant(), start, reading)

    def turns(self, start, reading):
        return changes([is_sure(plant, start, reading) for plant in self._plants])

    def free_turns(self, tone):
        tone = fixed(tone)
        return changes([first_bar(plant, tone) is None for plant in self._plants])

    def blamed(self, start, reading):
        if self.is_sure(start, reading):
            raise Unfit()
        found = []
        for place, deed in enumerate(self._done):
            if deed[0] in BLAMED:
                plant = after_all(self.first(), self._done[:place] + self._done[place + 1:])
                if plant is not None and is_sure(plant, start, reading):
                    found.append(place)
        return found

    def is_plan(self, deeds):
        return after_all(self.plant(), fixed(deeds)) is not None

"""WIRES taken off and offered, hands that talk: with which of them a TONE is free."""

from handsunread.basics import all_places, fixed, is_number, is_row
from handsunread.errors import NoPaper, Unfit
from handsunread.partings import all_lots, is_short
from handsunread.plants import KINDS, all_hands, check_hand, check_wire, is_lot, wires_of


def without_wire(plant, wire):
    plant, wire = fixed(plant), fixed(wire)
    check_wire(plant, wire)
    return wire_taken(plant, wire)


def wire_taken(plant, wire):
    """The same, of a WIRE that is there, of what is tuples throughout already."""
    hand, word, number = wire
    rows = plant[1][hand][KINDS[word]]
    return with_rows(plant, hand, word, rows[:number] + rows[number + 1:])


def with_rows(plant, hand, word, rows):
    """The PLANT with these ROWS as the levers, or as the gauges, of the hand."""
    levers, gauges = plant[1][hand]
    own = (rows, gauges) if word == "lever" else (levers, rows)
    return plant[0], plant[1][:hand] + (own,) + plant[1][hand + 1:]


def is_offer(plant, thing):
    plant = fixed(plant)
    if not isinstance(thing, tuple) or len(thing) != 3:
        return False
    hand, word, row = thing
    if not is_number(hand) or not isinstance(word, str) or word not in KINDS:
        return False
    return 0 <= hand < len(plant[1]) and is_row(row, len(plant[0]))


def check_offers(plant, offers):
    """Raises NoHand for the first of these OFFERS to a number that is no hand."""
    for offer in offers:
        check_hand(plant, offer[0])


def with_offers(plant, offers):
    plant, offers = fixed(plant), fixed(offers)
    check_offers(plant, offers)
    return offered(plant, offers)


def offered(plant, offers):
    """The same, of OFFERS to hands that there are, of what is tuples throughout already."""
    for hand, word, row in offers:
        plant = with_rows(plant, hand, word, plant[1][hand][KINDS[word]] + (row,))
    return plant


def check_talks(plant, talks):
    """Raises NoHand for the first number in TALKS that is no hand."""
    for talk in talks:
        for hand in talk:
            check_hand(plant, hand)


def check_unlike(talks):
    """Raises Unfit for a TALK that has one hand twice."""
    for teller, hearer in talks:
        if teller == hearer:
            raise Unfit()


def with_talks(plant, talks):
    plant, talks = fixed(plant), fixed(talks)
    check_talks(plant, talks)
    check_unlike(talks)
    return talked(plant, talks)


def talked(plant, talks):
    """The same, of TALKS of hands that there are, of what is tuples throughout already."""
    return offered(plant, [offer for talk in talks for offer in talk_offers(plant, talk)])


def talk_offers(plant, talk):
    """The OFFERS of all gauges of the one hand to the other one."""
    teller, hearer = talk
    return tuple([(hearer, "gauge", row) for row in plant[1][teller][1]])


def first_bar(plant, tone):
    """The least lot the divisor of whose parting has a factor in common with the TONE; None if it is free."""
    for lot in all_lots(plant):
        if is_short(plant, lot, tone):
            return lot
    return None


def needless(plant, tone):
    plant, tone = fixed(plant), fixed(tone)
    if first_bar(plant, tone) is not None:
        raise Unfit()
    return tuple([wire for wire in wires_of(plant) if first_bar(wire_taken(plant, wire), tone) is None])


def bar(plant, offers, talks, tone):
    return first_bar(changed(plant, offers, talks), fixed(tone))


def changed(plant, offers, talks):
    """The PLANT with these OFFERS and then these TALKS; raises what bar raises."""
    plant, offers, talks = fixed(plant), fixed(offers), fixed(talks)
    check_offers(plant, offers)
    check_talks(plant, talks)
    check_unlike(talks)
    return talked(offered(plant, offers), talks)


def is_bar(plant, offers, talks, tone, thing):
    later = changed(plant, offers, talks)
    return is_lot(later, thing) and is_short(later, thing, tone)


def is_of_use(offers, lot):
    """Whether some of these OFFERS stands in the parting by the lot."""
    return any([(hand in lot) == (word == "lever") for hand, word, _ in offers])


def first_free(plant, bundles, tone, sets):
    """The first of these sets of places in bundles, tuples of OFFERS, with which the TONE is free."""
    known = []
    for places in sets:
        # With no bundle that stands in a parting which bars what was tried ahead, that one still bars.
        if all([any([place in places for place in useful]) for useful in known]):
            lot = first_bar(offered(plant, [offer for place in places for offer in bundles[place]]), tone)
            if lot is None:
                return places
            left = [place for place in range(len(bundles)) if place not in places]
            known.append([place for place in left if is_of_use(bundles[place], lot)])
    raise NoPaper()


def sets_of(bundles):
    """All sets of places in bundles, those with the fewest members first."""
    return [places for _, places in sorted([(len(some), some) for some in all_places(len(bundles))])]


def fewest_offers(plant, offers, tone):
    plant, offers, tone = fixed(plant), fixed(offers), fixed(tone)
    check_offers(plant, offers)
    return first_free(plant, [(offer,) for offer in offers], tone, sets_of(offers))


def cheapest_offers(plant, offers, prices, tone):
    plant, offers, prices, tone = fixed(plant), fixed(offers), fixed(prices), fixed(tone)
    check_offers(plant, offers)
    if len(prices) != len(offers):
        raise Unfit()
    priced = [(price_of(prices, places), len(places), places) for places in all_places(len(offers))]
    sets = [places for _, _, places in sorted(priced)]
    found = first_free(plant, [(offer,) for offer in offers], tone, sets)
    return price_of(prices, found), found


def price_of(prices, places):
    return sum([prices[place] for place in places])


def fewest_talks(plant, tone):
    plant, tone = fixed(plant), fixed(tone)
    hands = all_hands(plant)
    talks = [(teller, hearer) for teller in hands for hearer in hands if teller != hearer]
    bundles = [talk_offers(plant, talk) for talk in talks]
    return tuple([talks[place] for place in first_free(plant, bundles, tone, sets_of(bundles))])

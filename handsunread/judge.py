"""CLAIMS, and one judge for all papers that they are so or are not."""

from handsunread.basics import fixed, is_number, is_row
from handsunread.errors import NoWord, Unfit
from handsunread.learn import heard_by
from handsunread.memory import steady_poly
from handsunread.partings import is_short, parting_divisor, short_lots
from handsunread.plants import check_hand, check_lot, gauges_of, is_lot, is_plant, levers_of, others_than
from handsunread.plays import is_steady
from handsunread.polys import common_paper, divided, divides, greatest_common, have_common, is_common_paper, is_poly
from handsunread.polys import is_tone, pair_product, poly_sum
from handsunread.sheets import greatest_rank, is_rank_paper, is_sheet, rank_paper
from handsunread.spaces import is_kept, is_space, kept_with, within
from handsunread.staying import is_stay_paper, stay_paper
from handsunread.sure import is_sure, is_sure_paper, sure_paper
from handsunread.tables import row_times, shows_some
from handsunread.ways import is_way, links, way

# By its word how many things a CLAIM has.
THINGS = {"sure": 4, "deaf": 4, "held": 3, "most": 3, "short": 4, "covers": 4}


def is_claim(thing):
    if not isinstance(thing, tuple) or not thing or not isinstance(thing[0], str):
        return False
    word = thing[0]
    if word not in THINGS or len(thing) != THINGS[word]:
        return False
    if word == "most":
        return is_sheet(thing[1]) and is_number(thing[2]) and thing[2] >= 0
    return is_plant(thing[1]) and is_fit(thing)


def is_fit(claim):
    """Whether what stands behind the PLANT of a CLAIM is what its word asks."""
    word, plant = claim[0], claim[1]
    if word == "sure":
        return is_row(claim[2], len(plant[0])) and is_row(claim[3], len(plant[0]))
    if word == "deaf":
        return is_lot(plant, (claim[2],)) and is_lot(plant, (claim[3],))
    if word == "held":
        return is_tone(claim[2])
    if word == "short":
        return is_lot(plant, claim[2]) and is_tone(claim[3])
    return is_steady(plant, claim[2]) and is_tone(claim[3])


def told(claim):
    """The CLAIM in tuples; raises NoWord, then Unfit."""
    claim = fixed(claim)
    word = claim[0]
    if word not in THINGS:
        raise NoWord(word)
    if len(claim) != THINGS[word]:
        raise Unfit()
    return claim


def ready(claim):
    """The same; raises NoHand, too."""
    claim = told(claim)
    if claim[0] == "deaf":
        check_hand(claim[1], claim[2])
        check_hand(claim[1], claim[3])
    if claim[0] == "short":
        check_lot(claim[1], claim[2])
    return claim


def is_so(claim):
    claim = ready(claim)
    word = claim[0]
    if word == "sure":
        return is_sure(claim[1], claim[2], claim[3])
    if word == "deaf":
        return claim[3] not in heard_by(claim[1], claim[2])
    if word == "held":
        return len(short_lots(claim[1], claim[2])) > 0
    if word == "most":
        return greatest_rank(claim[1]) <= claim[2]
    if word == "short":
        return is_short(claim[1], claim[2], claim[3])
    return divides(claim[3], steady_poly(claim[1], claim[2]))


def paper(claim):
    claim = ready(claim)
    word = claim[0]
    if word == "sure":
        found = sure_paper(claim[1], claim[2], claim[3])
        return way(claim[1], claim[2], claim[3]) if found is None else found
    if word == "deaf":
        return deaf_paper(claim[1], claim[2], claim[3])
    if word == "held":
        return stay_paper(claim[1], claim[2])[1]
    if word == "most":
        return rank_paper(claim[1], claim[2] + 1)[1]
    if word == "short":
        polys = (parting_divisor(claim[1], claim[2]), claim[3])
        common = greatest_common(polys)
        return common if len(common) > 1 else common_paper(polys[0], polys[1])
    quotient, rest = divided(steady_poly(claim[1], claim[2]), claim[3])
    return rest if rest else quotient


def deaf_paper(plant, teller, hearer):
    lot = heard_by(plant, teller)
    if hearer in lot:
        return hands_between(plant, teller, hearer)
    return lot, kept_with(plant[0], levers_of(plant, (teller,) + lot))


def hands_between(plant, teller, hearer):
    """The hands from the one to the other, that hears of it, each reaching the next one; as few as can be."""
    pairs = links(plant)
    found, fresh = {}, [(teller,)]
    while hearer not in found:
        hands = fresh.pop(0)
        for one, other in pairs:
            if one == hands[-1] and other not in found:
                found[other] = hands + (other,)
                fresh.append(found[other])
    return found[hearer]


def is_paper(claim, thing):
    return shows(claim, thing) is not None


def shows(claim, thing):
    claim = ready(claim)
    if shows_so(claim, thing):
        return True
    if shows_not(claim, thing):
        return False
    return None


def shows_so(claim, thing):
    """Whether thing is a PAPER that the CLAIM is so."""
    word = claim[0]
    if word == "sure":
        return is_sure_paper(claim[1], claim[2], claim[3], thing)
    if word == "deaf":
        return is_deaf_paper(claim[1], claim[2], claim[3], thing)
    if word == "held":
        return is_stay_paper(claim[1], claim[2], ("lot", thing))
    if word == "most":
        return is_rank_paper(claim[1], claim[2] + 1, ("window", thing))
    if not is_poly(thing):
        return False
    if word == "short":
        return is_tone(thing) and divides(thing, claim[3]) and divides(thing, parting_divisor(claim[1], claim[2]))
    return pair_product(thing, claim[3]) == steady_poly(claim[1], claim[2])


def shows_not(claim, thing):
    """Whether thing is a PAPER that the CLAIM is not so."""
    word = claim[0]
    if word == "sure":
        return is_way(claim[1], claim[2], claim[3], thing)
    if word == "deaf":
        return is_chain(claim[1], claim[2], claim[3], thing)
    if word == "held":
        return is_stay_paper(claim[1], claim[2], ("rules", thing))
    if word == "most":
        return is_rank_paper(claim[1], claim[2] + 1, ("filling", thing))
    if word == "short":
        divisor = parting_divisor(claim[1], claim[2])
        return not have_common(divisor, claim[3]) and is_common_paper(divisor, claim[3], thing)
    if not is_poly(thing) or not 0 < len(thing) < len(claim[3]):
        return False
    return divides(claim[3], poly_sum((steady_poly(claim[1], claim[2]), row_times(thing, (-1, 1)))))


def is_deaf_paper(plant, teller, hearer, thing):
    """Whether thing is a pair (lot, moved) that shows that hearer never hears of teller."""
    if not isinstance(thing, tuple) or len(thing) != 2:
        return False
    lot, moved = thing
    if not is_lot(plant, lot) or hearer in lot or not is_space(moved, len(plant[0])):
        return False
    if not is_kept(plant[0], moved) or not within(levers_of(plant, (teller,) + lot), moved):
        return False
    gauges = gauges_of(plant, others_than(plant, lot))
    return not any([shows_some(gauges, row) for row in moved])


def is_chain(plant, teller, hearer, thing):
    """Whether thing is a tuple of hands from teller to hearer, two at least, each reaching the next one."""
    if not isinstance(thing, tuple) or len(thing) < 2 or not all([is_number(part) for part in thing]):
        return False
    if thing[0] != teller or thing[-1] != hearer:
        return False
    pairs = links(plant)
    return all([pair in pairs for pair in zip(thing, thing[1:])])


def about(claim, plant):
    claim, plant = told(claim), fixed(plant)
    if claim[0] == "most":
        raise Unfit()
    return claim[:1] + (plant,) + claim[2:]


def not_so(claims):
    return tuple([place for place, claim in enumerate(claims) if not is_so(claim)])


def turned_by(claims, plant):
    found = []
    for place, claim in enumerate(claims):
        # Of one without a PLANT nothing is asked but its form.
        if told(claim)[0] != "most" and is_so(claim) != is_so(about(claim, plant)):
            found.append(place)
    return tuple(found)

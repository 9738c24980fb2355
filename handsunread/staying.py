"""What stays: the POLY that divides the poly of the whole FOR ALL STEADY, and papers that a TONE is held or free."""

from handsunread.basics import NONE, ONE, fixed
from handsunread.errors import NoPaper
from handsunread.partings import is_short, short_lots
from handsunread.plants import all_lines, all_rules, entries_of, is_lot, is_rules, rules_of, whole
from handsunread.polys import divides, greatest_common, have_common, how_often, monic, pair_common, table_poly


def rules_poly(plant, rules):
    return table_poly(whole(plant, rules))


def common_with(plant, poly, some):
    """The greatest monic divisor of the POLY and of the polys of all of these RULES."""
    found = poly
    for rules in some:
        # What is 1 once stays so.
        if len(found) != 1:
            found = pair_common(found, rules_poly(plant, rules))
    return monic(found)


def stay(plant):
    plant = fixed(plant)
    return common_with(plant, (), all_rules(plant))


def stays(plant, tone):
    return divides(tone, stay(plant))


def stays_often(plant, tone):
    return how_often(tone, stay(plant))


def held_part(plant, tone):
    return greatest_common((tone, stay(plant)))


def shared_by(plant, some):
    return common_with(fixed(plant), (), fixed(some))


def is_free_behind(plant, tone, line):
    """Whether RULES with these FRACTIONS first, all others any, can have no factor in common with the TONE.

    Each zero of the TONE is one of the poly for all others exactly if it is for those of 0 and 1.
    """
    behind = all_lines(entries_of(plant) - len(line))
    return len(common_with(plant, tone, [rules_of(plant, line + rest) for rest in behind])) == 1


def free_rules(plant, tone):
    plant, tone = fixed(plant), fixed(tone)
    line = ()
    if not is_free_behind(plant, tone, line):
        raise NoPaper()
    while len(line) < entries_of(plant):
        number = 0
        # Each zero of the TONE bars one number at the most, so one up to its degree is not barred.
        while not is_free_behind(plant, tone, line + ((number, 1),)):
            number += 1
        line = line + ((number, 1),)
    return rules_of(plant, line)


def stay_paper(plant, tone):
    plant, tone = fixed(plant), fixed(tone)
    lots = short_lots(plant, tone)
    if lots:
        return "lot", lots[0]
    return "rules", free_rules(plant, tone)


def is_stay_paper(plant, tone, thing):
    plant, tone = fixed(plant), fixed(tone)
    if not isinstance(thing, tuple) or len(thing) != 2:
        return False
    word, shown = thing
    if word == "lot":
        return is_lot(plant, shown) and is_short(plant, shown, tone)
    if word == "rules":
        return is_rules(plant, shown) and not have_common(rules_poly(plant, shown), tone)
    return False


def few_rules(plant):
    plant = fixed(plant)
    found, common = [], ()
    for rules in all_rules(plant):
        less_common = common_with(plant, common, [rules])
        if less_common != common:
            found.append(rules)
            common = less_common
    # A later one may have taken off what an earlier one did, too. Without any, () is in common.
    for rules in list(found):
        left = [other for other in found if other != rules]
        if common_with(plant, (), left) == common:
            found = left
    return tuple(found)


def is_few_rules(plant, thing):
    plant = fixed(plant)
    if not isinstance(thing, tuple) or not all([is_plain_rules(plant, rules) for rules in thing]):
        return False
    # For each other one its poly has a factor that the other's lacks: so the others are no more than its degree.
    if len(thing) > len(plant[0]) + 1:
        return False
    told = stay(plant)
    if common_with(plant, (), thing) != told:
        return False
    # Without any, () is in common: so one alone is needed, and no RULES are too few.
    parts = [thing[:place] + thing[place + 1:] for place in range(len(thing))]
    return all([common_with(plant, (), left) != told for left in parts])


def is_plain_rules(plant, thing):
    """Whether thing are RULES of (0, 1) and (1, 1) alone."""
    if not is_rules(plant, thing):
        return False
    return all([part in (NONE, ONE) for rule in thing for row in rule for part in row])

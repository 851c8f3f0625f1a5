"""Standings of rules of any kind: which names may stand together where rules have `not`."""

from groundlots.errors import TooMany
from groundlots.held import first_never, rounds
from groundlots.lots import set_of
from groundlots.rules import Rule, names_in, wanted_base, wanted_beside
from groundlots.words import is_names, wanted_names

MOST_OPEN = 8


def reduct(rules, names):
    """The list of the rules none of whose unless is in names, in order, as plain ones."""
    base = wanted_base(rules)
    return reduced(base, wanted_names(names))


def is_standing(rules, grounds, thing):
    """Whether a thing, which may be anything, is a list of names that is a standing."""
    base, given = wanted(rules, grounds)
    return is_names(thing) and standing_by(base, given, thing) == sorted(thing)


def standings(rules, grounds):
    """All standings, in the order of lots; TooMany of more than 8 unlike names in the unless of rules."""
    base, given = wanted(rules, grounds)
    if len(names_unless(base)) > MOST_OPEN:
        raise TooMany("these are more than 8 names behind a not")
    return all_standings(base, given)


def sure(rules, grounds):
    """A pair of rising lists: names that are in all standings, and names that are in none."""
    base, given = wanted(rules, grounds)
    ahead = None
    ins = []
    while ins != ahead:
        ahead = ins
        wide = rounds(reduced(base, ins), given)
        ins = sorted(rounds(reduced(base, wide), given))
    return (ins, [name for name in names_in(base, given) if name not in wide])


def strata(rules):
    """A dict from all names, rising, to the least numbers by which the rules lie in layers; None where there are none.

    Each step up leads to another name. So a number as high as there are names
    would mean that some name stands above itself.
    """
    base = wanted_base(rules)
    found = {name: 0 for name in names_in(base)}
    rising = [rule for rule in base if rule.head is not None]
    ahead = None
    while found != ahead:
        ahead = dict(found)
        for rule in rising:
            found[rule.head] = lifted(rule, found)
        if any([number >= len(found) for number in found.values()]):
            return None
    return found


def wanted(rules, grounds):
    """The rules as a list and the grounds as a tuple; BadRules, BadNames."""
    base = wanted_base(rules)
    return (base, wanted_beside(grounds, base))


def reduced(rules, names):
    """The rules none of whose unless is in names, in order, as plain ones."""
    return [Rule(rule.head, rule.body) for rule in rules if not any([name in names for name in rule.unless])]


def names_unless(rules):
    """The rising list of the names that stand in the unless of rules."""
    return sorted(set([name for rule in rules for name in rule.unless]))


def standing_by(rules, grounds, names):
    """The rising list of what is held by the reduct of names and the grounds; None where there is a clash."""
    plain = reduced(rules, names)
    found = rounds(plain, grounds)
    return sorted(found) if first_never(plain, found) is None else None


def all_standings(rules, grounds):
    """All standings, in the order of lots.

    The reduct of a standing is that of the names behind a `not` that it has.
    So each standing is what is held by the reduct of some set of these.
    """
    behind = names_unless(rules)
    found = []
    for mask in range(1 << len(behind)):
        names = set_of(mask, behind)
        there = standing_by(rules, grounds, names)
        if there is not None and [name for name in behind if name in there] == list(names):
            found.append(tuple(there))
    return sorted(found, key=set_place)


def set_place(one):
    """By what sets are put in the order of lots."""
    return (len(one), one)


def lifted(rule, numbers):
    """The least number for the head of a rule, from the one that it has on, by those that the other names have."""
    below = [numbers[name] for name in (rule.head, *rule.body)]
    return max(below + [numbers[name] + 1 for name in rule.unless])

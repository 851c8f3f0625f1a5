"""Ranks of assumed names: the best contexts, and how firmly names are held. Rules are plain here."""

from groundlots.contexts import how_many
from groundlots.errors import BadRanks
from groundlots.labels import MOST_ASSUMED, Reach
from groundlots.lots import mask_of, places_in, widest
from groundlots.rules import names_in, wanted_plain
from groundlots.words import MOST_NAMES, is_name, is_number, wanted_name

LOWEST = 1
MIDDLE = 5
HIGHEST = 9

# The cut of this number has no names, since no rank is as high.
LAST_CUT = 10


def cut(ranks, least):
    """The set of the names of that rank or a higher one; BadRanks."""
    now = wanted_ranks(ranks)
    if not is_number(least) or not LOWEST <= least <= LAST_CUT:
        raise BadRanks("this is no number from 1 to 10")
    return cut_of(now, least)


def best(rules, ranks):
    """The contexts whose names of each cut are a context of that cut, in the order of lots."""
    reach, cuts = wanted(rules, ranks)
    return reach.sets(best_masks(reach.sound(), cuts))


def clash_rank(rules, ranks):
    """The highest number from 1 to 10 whose cut is not sound; 0 where each is."""
    reach, cuts = wanted(rules, ranks)
    sound = reach.sound()
    return max([number for number, mask in cuts if not sound[mask]], default=0)


def firm(rules, ranks, name):
    """The highest number from 1 to 10 by whose cut the name is held, where that is above the clash rank; else 0."""
    reach, cuts = wanted(rules, ranks)
    return firmness(reach.bearing(wanted_name(name)), cuts)


def firms(rules, ranks):
    """A dict from all names that stand in rules or ranks, rising, to how firmly they are held."""
    reach, cuts = wanted(rules, ranks)
    return {name: firmness(reach.bearing(name), cuts) for name in reach.names}


def in_best(rules, ranks):
    """The rising list of the names that are held by all best contexts; none without any."""
    reach, cuts = wanted(rules, ranks)
    there = [reach.reached[mask] for mask in best_masks(reach.sound(), cuts)]
    return [name for name in reach.names if how_many(there, reach.bit(name)) == "all"]


def wanted(rules, ranks):
    """What each set of the ranked names reaches by plain rules, and the cuts; BadRules, NotPlain, BadRanks."""
    base = wanted_plain(rules)
    now = wanted_ranks(ranks, base)
    return (Reach(base, now), cut_masks(now))


def wanted_ranks(thing, rules=()):
    """A dict of the ranks, names rising, that with those of rules are 24 names at most; else BadRanks."""
    if not is_ranks(thing):
        raise BadRanks("these are no ranks")
    if len(names_in(rules, thing)) > MOST_NAMES:
        raise BadRanks("with those of the rules these are more than 24 names")
    return {name: thing[name] for name in sorted(thing)}


def is_ranks(thing):
    """Whether a thing, which may be anything, is a dict from at most 10 names to ranks."""
    if not isinstance(thing, dict) or len(thing) > MOST_ASSUMED:
        return False
    return all([is_name(name) and is_rank(thing[name]) for name in thing])


def is_rank(thing):
    """Whether a thing, which may be anything, is a number from 1 to 9."""
    return is_number(thing) and LOWEST <= thing <= HIGHEST


def wanted_rank(thing):
    """The thing, which is a rank, else BadRanks."""
    if not is_rank(thing):
        raise BadRanks("this is no rank")
    return thing


def cut_of(ranks, least):
    """The set of the names of that rank or a higher one, where the ranks' names are rising."""
    return tuple([name for name in ranks if ranks[name] >= least])


def cut_masks(ranks):
    """The pairs of each number from 1 to 10 and the mask of its cut over the ranked names, rising."""
    order = list(ranks)
    return [(number, mask_of(cut_of(ranks, number), order)) for number in range(LOWEST, LAST_CUT + 1)]


def best_masks(family, cuts):
    """The greatest sets of a family that have in each cut one of the greatest sets of that cut, in the order of lots.

    With a set the family has all that lie within it.
    """
    return [mask for mask in widest(family) if all([is_filled(family, mask & ground, ground) for _, ground in cuts])]


def is_filled(family, mask, ground):
    """Whether a set of the family would leave it with any other thing of the ground, in which it lies."""
    return not any([family[mask | 1 << at] for at in places_in(ground ^ mask)])


def firmness(bearing, cuts):
    """The highest number whose cut is sound and bears the name; 0 where none does.

    A higher cut lies within a lower one: so those that are sound are just
    those above the clash rank.
    """
    return max([number for number, mask in cuts if bearing[mask]], default=0)

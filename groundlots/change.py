"""What is given up for a change, or against it, by ranks. Rules are plain here."""

from groundlots.errors import BadStep, BadWay, Contrary, Needed, TooMany
from groundlots.held import first_never, rounds
from groundlots.labels import MOST_ASSUMED, Reach
from groundlots.lots import as_sets, least, set_of, widest
from groundlots.ranks import MIDDLE, best_masks, cut_masks, is_rank, wanted_rank, wanted_ranks
from groundlots.rules import names_in, wanted_beside, wanted_plain
from groundlots.words import MOST_NAMES, is_name, wanted_name, wanted_name_or_none

EACH = "each"
BEST = "best"
MOST_STEPS = 20


def kernels(rules, base, name):
    """The lot of the least sets of base by which the name is held, or, for None, there is a clash."""
    names, family = wanted(rules, base, name)
    return as_sets(least(family), names)


def remainders(rules, base, name):
    """The greatest sets of base by which it is not, in the order of lots."""
    names, family = wanted(rules, base, name)
    return as_sets(widest([not there for there in family]), names)


def given_up(rules, ranks, name, *, way=EACH):
    """The set of names to be given up so that the name is held no more; BadWay, Needed."""
    plain = wanted_plain(rules)
    now = wanted_ranks(ranks, plain)
    goal = wanted_name_or_none(name)
    if way not in (EACH, BEST):
        raise BadWay("this is no way to give up")
    return lost_each(plain, now, goal) if way == EACH else lost_best(plain, now, goal)


def taken_on(rules, ranks, name, rank=MIDDLE):
    """New ranks, in which the name has the rank and the rest is sound with it; Contrary, TooMany."""
    plain = wanted_plain(rules)
    now = wanted_ranks(ranks, plain)
    return with_name(plain, now, wanted_name(name), wanted_rank(rank))


def changes(rules, ranks, steps):
    """The list of the ranks behind each of the steps; BadStep, Needed, Contrary, TooMany."""
    plain = wanted_plain(rules)
    now = wanted_ranks(ranks, plain)
    found = []
    for step in wanted_steps(steps):
        now = behind_step(plain, now, step)
        found.append(now)
    return found


def wanted(rules, base, name):
    """The rising names of base, and by which sets of them the name is held; BadRules, NotPlain, BadNames, BadName."""
    plain = wanted_plain(rules)
    names = sorted(wanted_beside(base, plain, MOST_ASSUMED))
    return (names, holding(plain, names, wanted_name_or_none(name)))


def wanted_steps(thing):
    """A list of at most 20 steps, else BadStep."""
    if not isinstance(thing, (list, tuple)):
        raise BadStep(0)
    for at, step in enumerate(thing[:MOST_STEPS]):
        if not is_step(step):
            raise BadStep(at)
    if len(thing) > MOST_STEPS:
        raise BadStep(MOST_STEPS)
    return list(thing)


def is_step(thing):
    """Whether a thing, which may be anything, is a tuple ("off", name) or ("on", name, rank)."""
    if not isinstance(thing, tuple):
        return False
    if len(thing) == 2:
        return thing[0] == "off" and (thing[1] is None or is_name(thing[1]))
    return len(thing) == 3 and thing[0] == "on" and is_name(thing[1]) and is_rank(thing[2])


def behind_step(rules, ranks, step):
    """The ranks behind a step; Needed, Contrary, TooMany."""
    if step[0] == "on":
        return with_name(rules, ranks, step[1], step[2])
    gone = lost_each(rules, ranks, step[1])
    return {name: ranks[name] for name in ranks if name not in gone}


def holding(rules, names, goal):
    """The family of the sets of names, sound or not, by which the goal is held, or, for None, there is a clash."""
    if goal is None:
        return [not sound for sound in Reach(rules, names).sound()]
    # Without the nevers each set counts as sound.
    return Reach([rule for rule in rules if rule.head is not None], names).bearing(goal)


def wanted_family(rules, ranks, goal):
    """By which sets of the ranked names the goal is held; Needed where it is by none of them."""
    family = holding(rules, list(ranks), goal)
    if family[0]:
        raise Needed("this is held without any grounds")
    return family


def lost_each(rules, ranks, goal):
    """What is given up by "each": of each kernel the names of the lowest rank; Needed."""
    family = wanted_family(rules, ranks, goal)
    return lowest_of(as_sets(least(family), list(ranks)), ranks)


def lost_best(rules, ranks, goal):
    """What is given up by "best": all names but those that stand in each best remainder; Needed."""
    family = wanted_family(rules, ranks, goal)
    kept = len(family) - 1
    for mask in best_masks([not there for there in family], cut_masks(ranks)):
        kept &= mask
    # The greatest mask is that of all names.
    return set_of(kept ^ (len(family) - 1), list(ranks))


def with_name(rules, ranks, name, rank):
    """The ranks with the name taken on; Contrary, TooMany."""
    if first_never(rules, rounds(rules, [name])) is not None:
        raise Contrary("this name alone is not sound")
    names = sorted(set([*ranks, name]))
    if len(names) > MOST_ASSUMED or len(names_in(rules, names)) > MOST_NAMES:
        raise TooMany("these are more than 10 ranked names, or more than 24 of all")
    # Each kernel has another name, since the name alone is sound.
    others = [[one for one in kernel if one != name] for kernel in as_sets(least(holding(rules, names, None)), names)]
    gone = lowest_of(others, ranks)
    return {one: rank if one == name else ranks[one] for one in names if one not in gone}


def lowest_of(sets, ranks):
    """The set of those names that have the lowest rank in one of the sets."""
    found = []
    for one in sets:
        lowest = min([ranks[name] for name in one])
        found = found + [name for name in one if ranks[name] == lowest]
    return tuple(sorted(set(found)))

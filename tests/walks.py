"""Slow walks that follow the document's words, and small bases to walk over.

Nothing here uses more of the program than Rule, so that the program is
measured by something else than itself.
"""

import itertools
import random

from groundlots.rules import Rule


def all_sets(things):
    """All sets of things as rising tuples, in the order of lots."""
    rising = sorted(things)
    return [one for many in range(len(rising) + 1) for one in itertools.combinations(rising, many)]


def in_lots(sets):
    """Sets as rising tuples, each once, in the order of lots."""
    return sorted({tuple(sorted(one)) for one in sets}, key=lambda one: (len(one), one))


def least_of(sets):
    """The lot of the sets within which no other one lies."""
    return in_lots(one for one in sets if not any(set(other) < set(one) for other in sets))


def greatest_of(sets):
    """The sets that lie within no other one, in the order of lots."""
    return in_lots(one for one in sets if not any(set(one) < set(other) for other in sets))


def names_of(rules, more=()):
    """The rising list of the names in rules and more."""
    found = set(more)
    for rule in rules:
        found |= {rule.head, *rule.body, *rule.unless} - {None}
    return sorted(found)


def is_closed(rules, names):
    """Whether a set of names has each head of a rule whose body it has."""
    return all(rule.head is None or rule.head in names or not set(rule.body) <= set(names) for rule in rules)


def slow_held(rules, grounds):
    """The least closed set with all grounds: what is in each of them."""
    closed = [set(one) for one in all_sets(names_of(rules, grounds))
              if set(grounds) <= set(one) and is_closed(rules, one)]
    return sorted(set.intersection(*closed))


def quick_held(rules, grounds):
    """The same, for bases with too many names for all sets of them."""
    found = set(grounds)
    while not is_closed(rules, found):
        found |= {rule.head for rule in rules if set(rule.body) <= found} - {None}
    return sorted(found)


def slow_clash(rules, grounds):
    """Whether some never has all its body held."""
    there = set(quick_held(rules, grounds))
    return any(rule.head is None and set(rule.body) <= there for rule in rules)


def is_paper(rules, grounds, name, places):
    """Whether a list of places is a paper, by the words of the document."""
    if not places:
        return name is not None and name in grounds
    for at, place in enumerate(places):
        ahead = {rules[one].head for one in places[:at]}
        if not set(rules[place].body) <= set(grounds) | ahead:
            return False
        if rules[place].head is None and at < len(places) - 1:
            return False
    return rules[places[-1]].head == name


def is_least_paper(rules, grounds, name, places):
    """Whether a paper has no lesser part, in the same order, that is one."""
    return is_paper(rules, grounds, name, places) and not any(
        is_paper(rules, grounds, name, list(part))
        for many in range(len(places)) for part in itertools.combinations(places, many))


def some_bases(many, names="abcde", most_rules=7, seed=1, nevers=1, sizes=(0, 1, 1, 2, 2, 3)):
    """Small plain bases, always the same: the heads are names or, nevers times, None; sizes are those of bodies."""
    chance = random.Random(seed)
    for _ in range(many):
        heads = list(names) + [None] * nevers
        yield [Rule(chance.choice(heads), chance.sample(names, chance.choice(sizes)))
               for _ in range(chance.randrange(most_rules + 1))]


def many_rules():
    """Rules by which r is held by 120 least sets of ten names."""
    return [Rule("p", list(some)) for some in itertools.combinations("abcd", 2)] + [
        Rule("q", list(some)) for some in itertools.combinations("efghij", 3)] + [Rule("r", ["p", "q"])]


def some_of(chance, things):
    """Some of the things, in any order."""
    found = [one for one in things if chance.random() < 0.5]
    chance.shuffle(found)
    return found


def is_sound(rules, names):
    """Whether there is no clash by a set of names."""
    return not slow_clash(rules, names)


def sound_sets(rules, may):
    """All sound sets of may, in the order of lots."""
    return [one for one in all_sets(may) if is_sound(rules, one)]


def slow_contradictions(rules, may):
    """The least sets of may that are not sound."""
    return least_of([one for one in all_sets(may) if not is_sound(rules, one)])


def slow_label(rules, may, name):
    """The least sound sets of may by which a name is held."""
    return least_of([one for one in sound_sets(rules, may) if name in quick_held(rules, one)])


def slow_labels(rules, may):
    """The labels of all names that stand in rules or may."""
    return {name: slow_label(rules, may, name) for name in names_of(rules, may)}


def slow_lacking(rules, may, name):
    """The greatest sound sets of may by which a name is not held."""
    return greatest_of([one for one in sound_sets(rules, may) if name not in quick_held(rules, one)])


def slow_contexts(rules, may):
    """The greatest sound sets of may."""
    return greatest_of(sound_sets(rules, may))


def slow_repairs(rules, may):
    """The least sets of may that have a name of each contradiction."""
    against = slow_contradictions(rules, may)
    return least_of([one for one in all_sets(may) if all(set(one) & set(other) for other in against)])


def slow_cut(ranks, least):
    """The rising tuple of the names of that rank or a higher one."""
    return tuple(sorted(name for name in ranks if ranks[name] >= least))


def is_held(rules, grounds, name):
    """Whether a name is held by the grounds, or, for None, there is a clash."""
    return slow_clash(rules, grounds) if name is None else name in quick_held(rules, grounds)


def slow_best_of(ranks, greatest):
    """Those of the greatest sets of all names whose names of each cut are one of the greatest sets of that cut."""
    cuts = [slow_cut(ranks, least) for least in range(1, 11)]
    right = {one: greatest(one) for one in cuts}
    return [one for one in greatest(slow_cut(ranks, 1))
            if all(tuple(name for name in one if name in ground) in right[ground] for ground in cuts)]


def slow_best(rules, ranks):
    """The best contexts."""
    return slow_best_of(ranks, lambda ground: slow_contexts(rules, ground))


def slow_clash_rank(rules, ranks):
    """The highest number from 1 to 10 whose cut is not sound; 0 where each is."""
    return max([least for least in range(1, 11) if not is_sound(rules, slow_cut(ranks, least))], default=0)


def slow_firm(rules, ranks, name):
    """The highest number by whose cut the name is held, where that is above the clash rank; else 0."""
    number = max([least for least in range(1, 11) if name in quick_held(rules, slow_cut(ranks, least))], default=0)
    return number if number > slow_clash_rank(rules, ranks) else 0


def slow_kernels(rules, base, name):
    """The least sets of base by which a name is held, or, for None, there is a clash."""
    return least_of([one for one in all_sets(base) if is_held(rules, one, name)])


def slow_remainders(rules, base, name):
    """The greatest sets of base by which it is not."""
    return greatest_of([one for one in all_sets(base) if not is_held(rules, one, name)])


def slow_given_up(rules, ranks, name, way):
    """What is given up by a way; None where it is held without any grounds."""
    if is_held(rules, (), name):
        return None
    if way == "each":
        return slow_lowest(slow_kernels(rules, ranks, name), ranks)
    kept = slow_best_of(ranks, lambda ground: slow_remainders(rules, ground, name))
    return tuple(sorted(one for one in ranks if not all(one in some for some in kept)))


def slow_lowest(sets, ranks):
    """The names that have the lowest rank in one of the sets."""
    return tuple(sorted({name for one in sets for name in one if ranks[name] == min(ranks[other] for other in one)}))


def slow_taken_on(rules, ranks, name, rank):
    """The new ranks; None where the name alone is not sound."""
    if not is_sound(rules, [name]):
        return None
    against = [set(one) - {name} for one in slow_kernels(rules, sorted({*ranks, name}), None)]
    gone = slow_lowest(against, ranks)
    return {one: {**ranks, name: rank}[one] for one in sorted({*ranks, name}) if one not in gone}


def slow_reduct(rules, names):
    """The rules none of whose unless is in names, as plain ones."""
    return [Rule(rule.head, rule.body) for rule in rules if not set(rule.unless) & set(names)]


def is_slow_standing(rules, grounds, names):
    """Whether a set of names is just what its reduct and the grounds hold, without a clash."""
    plain = slow_reduct(rules, names)
    return set(quick_held(plain, grounds)) == set(names) and not slow_clash(plain, grounds)


def slow_standings(rules, grounds):
    """All standings among all sets of names."""
    return [one for one in all_sets(names_of(rules, grounds)) if is_slow_standing(rules, grounds, one)]


def some_open_bases(many, names="abcde", most_rules=7, seed=1, nevers=1, nots=(0, 0, 1, 1, 2)):
    """Small bases of any kind, always the same: as those above, and nots are the sizes of what stands behind `not`."""
    chance = random.Random(seed)
    for _ in range(many):
        heads = list(names) + [None] * nevers
        yield [Rule(chance.choice(heads), chance.sample(names, chance.choice((0, 0, 1, 1, 2))),
                    unless=chance.sample(names, chance.choice(nots))) for _ in range(chance.randrange(most_rules + 1))]


def some_ranks(chance, names):
    """Ranks of some of the names, in any order: few unlike ones, or many."""
    low, high = chance.choice([(1, 9), (4, 6), (5, 5), (1, 2), (8, 9)])
    return {name: chance.randint(low, high) for name in some_of(chance, names)}

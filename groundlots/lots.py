"""Lots of sets, and what meets them.

Within this file a set stands as a mask: bit number k is set where the set has
the k-th of the things in hand, rising. A family of sets is a list of truths,
one for each mask, so nothing is left to an order of sets.
"""

from groundlots.errors import BadSets
from groundlots.words import is_name, is_number

MOST_THINGS = 12
MOST_SETS = 100


def lot(sets):
    """The lot of those sets within which no other one lies."""
    order = wanted_order(sets)
    return as_sets(least(above(sets, order)), order)


def bears(sets, some):
    """Whether one of the sets lies within some, a set."""
    order = wanted_order(sets, [some])
    return above(sets, order)[mask_of(some, order)]


def joined(one, other):
    """The lot of all sets of both."""
    order = wanted_order(one, other)
    return as_sets(least(above([*one, *other], order)), order)


def met(one, other):
    """The lot of each set of one put together with each of the other."""
    order = wanted_order(one, other)
    first = above(one, order)
    second = above(other, order)
    return as_sets(least([first[mask] and second[mask] for mask in range(len(first))]), order)


def hits(sets):
    """The lot of the least sets that have a thing of each of the sets."""
    order = wanted_order(sets)
    return as_sets(least(complements([not one for one in above(sets, order)])), order)


def greatest(things, sets):
    """The greatest sets of things within which none of the sets lies, in the order of lots."""
    order = wanted_order([things], sets)
    ground = mask_of(things, order)
    family = above(sets, order)
    return as_sets(widest([mask & ground == mask and not family[mask] for mask in range(len(family))]), order)


def wanted_order(*arguments):
    """The rising list of the things of all arguments, each a list of sets; else BadSets."""
    for sets in arguments:
        if not is_sets(sets):
            raise BadSets("this is no list of sets")
    found = {thing: True for sets in arguments for one in sets for thing in one}
    if len(found) > MOST_THINGS or not is_one_kind(list(found)):
        raise BadSets("these are more than 12 things, or names and numbers mixed")
    return sorted(found)


def is_sets(thing):
    """Whether a thing, which may be anything, is a list of at most 100 sets."""
    return isinstance(thing, (list, tuple)) and len(thing) <= MOST_SETS and all([is_set(one) for one in thing])


def is_set(thing):
    """Whether a thing, which may be anything, is a list of unlike names, or of unlike numbers from 0 on."""
    # What is neither may have no place in a set, so the kind is looked at first.
    return isinstance(thing, (list, tuple)) and is_one_kind(thing) and len(set(thing)) == len(thing)


def is_one_kind(things):
    """Whether all things of a list are names, or all are numbers from 0 on."""
    return all([is_name(one) for one in things]) or all([is_number(one) and one >= 0 for one in things])


def mask_of(things, order):
    """The mask of things over the list of all in hand."""
    mask = 0
    for thing in things:
        mask |= 1 << order.index(thing)
    return mask


def places_in(mask):
    """The places of a mask's things, rising."""
    return tuple([at for at in range(mask.bit_length()) if mask >> at & 1])


def set_of(mask, order):
    """The set that a mask over the list of all in hand stands for."""
    return tuple([order[at] for at in places_in(mask)])


def as_sets(masks, order):
    """The sets that masks stand for, in their order."""
    return [set_of(mask, order) for mask in masks]


def lot_place(mask):
    """By what masks are put in the order of lots."""
    return (len(places_in(mask)), places_in(mask))


def one_less(mask):
    """The masks that have one thing less."""
    return [mask ^ (1 << at) for at in places_in(mask)]


def above(sets, order):
    """The family of all sets within which one of the sets lies."""
    family = [False] * (1 << len(order))
    for one in sets:
        family[mask_of(one, order)] = True
    # What has one thing less is a lower mask, so it is settled already.
    for mask in range(len(family)):
        family[mask] = family[mask] or any([family[less] for less in one_less(mask)])
    return family


def complements(family):
    """The family of what the sets of a family lack."""
    # The mask of what a set lacks is the greatest mask less its own.
    return family[::-1]


def least(family):
    """The masks of the least sets of a family that has all between any two of its sets, in the order of lots."""
    found = [mask for mask in range(len(family))
             if family[mask] and not any([family[less] for less in one_less(mask)])]
    return sorted(found, key=lot_place)


def widest(family):
    """The masks of the greatest sets of a family that has all between any two of its sets, in the order of lots."""
    lacked = least(complements(family))
    return sorted([len(family) - 1 - mask for mask in lacked], key=lot_place)

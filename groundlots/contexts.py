"""What repairs the contradictions, and what then can stand. Rules and may are as in labels."""

from groundlots.errors import IsHeld, NotHeld
from groundlots.labels import wanted_reach
from groundlots.lots import complements, least, set_of, widest
from groundlots.words import wanted_name


def repairs(rules, may):
    """The lot of the least sets to be left out of may so that the rest is sound."""
    reach = wanted_reach(rules, may)
    return reach.sets(repair_masks(reach))


def contexts(rules, may):
    """The greatest sound sets of may, in the order of lots."""
    reach = wanted_reach(rules, may)
    return reach.sets(context_masks(reach))


def blamed(rules, may):
    """The rising list of the names of may that stand in some contradiction."""
    reach = wanted_reach(rules, may)
    blame = blame_mask(reach)
    return [name for at, name in enumerate(reach.assumed) if blame >> at & 1]


def free(rules, may):
    """The rising list of the names of may that stand in no contradiction."""
    reach = wanted_reach(rules, may)
    blame = blame_mask(reach)
    return [name for at, name in enumerate(reach.assumed) if not blame >> at & 1]


def borne(rules, may, name):
    """`all`, `some` or `none`: by how many contexts the name is held."""
    reach = wanted_reach(rules, may)
    return how_many(held_masks(reach), reach.bit(wanted_name(name)))


def in_all(rules, may):
    """The rising list of the names that are held by all contexts; none without contexts."""
    reach = wanted_reach(rules, may)
    there = held_masks(reach)
    return [name for name in reach.names if how_many(there, reach.bit(name)) == "all"]


def in_some(rules, may):
    """The rising list of the names that are held by one context or more."""
    reach = wanted_reach(rules, may)
    there = held_masks(reach)
    return [name for name in reach.names if how_many(there, reach.bit(name)) != "none"]


def defence(rules, may, name):
    """The list of pairs (repair, first set of the label without any name of it) where all contexts hold the name."""
    reach = wanted_reach(rules, may)
    if how_many(held_masks(reach), reach.bit(wanted_name(name))) != "all":
        raise NotHeld("not each context holds this, or there is none")
    bearing = least(reach.bearing(name))
    found = []
    for repair in repair_masks(reach):
        # What a repair leaves is a context, which holds the name: so there is a first one.
        left = [mask for mask in bearing if mask & repair == 0]
        found.append((set_of(repair, reach.assumed), set_of(left[0], reach.assumed)))
    return found


def counter(rules, may, name):
    """The first context by which the name is not held; IsHeld where there is none."""
    reach = wanted_reach(rules, may)
    without = reach.failing(wanted_name(name))
    for mask in context_masks(reach):
        if without[mask]:
            return set_of(mask, reach.assumed)
    raise IsHeld("each context holds this, or there is none")


def repair_masks(reach):
    """The masks of the repairs, in the order of lots."""
    return least(complements(reach.sound()))


def context_masks(reach):
    """The masks of the contexts, in the order of lots."""
    return widest(reach.sound())


def blame_mask(reach):
    """The mask of all names that stand in some contradiction."""
    blame = 0
    for mask in least([not sound for sound in reach.sound()]):
        blame |= mask
    return blame


def held_masks(reach):
    """For each context the mask of what is held by it."""
    return [reach.reached[mask] for mask in context_masks(reach)]


def how_many(masks, bit):
    """Whether `all`, `some` or `none` of the masks have a bit; `none` where there is no mask."""
    having = [mask for mask in masks if mask & bit > 0]
    if not having:
        return "none"
    return "all" if len(having) == len(masks) else "some"

"""Labels: by which sets of assumed names each name is held. Rules are plain here."""

from groundlots.held import why
from groundlots.lots import as_sets, least, mask_of, widest
from groundlots.rules import names_in, wanted_beside, wanted_plain
from groundlots.words import wanted_name

MOST_ASSUMED = 10


def contradictions(rules, may):
    """The lot of the least sets of may that are not sound."""
    return contradictions_by(wanted_reach(rules, may))


def label(rules, may, name):
    """The lot of the least sound sets of may by which the name is held."""
    reach = wanted_reach(rules, may)
    return label_by(reach, wanted_name(name))


def labels(rules, may):
    """A dict from all names that stand in rules or may, rising, to their labels."""
    return labels_by(wanted_reach(rules, may))


def lacking(rules, may, name):
    """The greatest sound sets of may by which the name is not held, in the order of lots."""
    reach = wanted_reach(rules, may)
    return lacking_by(reach, wanted_name(name))


def is_label(rules, may, name, thing):
    """Whether a thing, which may be anything, is just the label."""
    right = label(rules, may, name)
    return isinstance(thing, (list, tuple)) and list(thing) == right


def backed(rules, may, name):
    """The list of pairs (set, paper), one for each set of the label, in order."""
    return [(one, why(rules, one, name)) for one in label(rules, may, name)]


def wanted_reach(rules, may):
    """What each set of may reaches by plain rules; BadRules, NotPlain, BadNames."""
    base = wanted_plain(rules)
    return Reach(base, wanted_beside(may, base, MOST_ASSUMED))


def contradictions_by(reach):
    """The contradictions of what is reached."""
    return reach.sets(least([not sound for sound in reach.sound()]))


def label_by(reach, name):
    """The label of a name by what is reached."""
    return reach.sets(least(reach.bearing(name)))


def labels_by(reach):
    """The labels of all names by what is reached."""
    return {name: label_by(reach, name) for name in reach.names}


def lacking_by(reach, name):
    """The greatest sound sets that do not reach a name."""
    return reach.sets(widest(reach.failing(name)))


class Reach:
    """What is held by each set of assumed names.

    A set of assumed names stands as a mask over them, rising, and what is held
    as a mask over all names, rising; families of sets are as in lots.
    """

    def __init__(self, rules, may):
        self.assumed = sorted(may)
        self.names = names_in(rules, may)
        self.reached = masks_reached(rules, self.assumed, self.names)

    def sound(self):
        """The family of the sound sets."""
        return [mask is not None for mask in self.reached]

    def bearing(self, name):
        """The family of the sound sets by which a name is held."""
        bit = self.bit(name)
        return [mask is not None and mask & bit > 0 for mask in self.reached]

    def failing(self, name):
        """The family of the sound sets by which a name is not held."""
        bit = self.bit(name)
        return [mask is not None and mask & bit == 0 for mask in self.reached]

    def bit(self, name):
        """The mask of a name alone; 0 where it stands nowhere, so that no set holds it."""
        return mask_of([name], self.names) if name in self.names else 0

    def sets(self, masks):
        """The sets of assumed names that masks stand for, in their order."""
        return as_sets(masks, self.assumed)


def masks_reached(rules, assumed, names):
    """For each set of assumed names, in the order of their masks, the mask of what is held; None where it clashes."""
    pairs = [(mask_of(rule.body, names), mask_of([rule.head], names)) for rule in rules if rule.head is not None]
    nevers = [mask_of(rule.body, names) for rule in rules if rule.head is None]
    found = [closed(pairs, nevers, 0)]
    for name in assumed:
        bit = mask_of([name], names)
        # The sets with this name go behind those without it: so their places are their masks.
        found = found + [None if mask is None else closed(pairs, nevers, mask | bit) for mask in found]
    return found


def closed(pairs, nevers, mask):
    """What is held where all of a mask is; None where there is a clash."""
    ahead = None
    while mask != ahead:
        ahead = mask
        for body, head in pairs:
            if mask & body == body:
                mask |= head
    return None if any([mask & body == body for body in nevers]) else mask

"""Machines: which of their parts may be broken, and by what share, after what was seen."""

from math import gcd

from groundlots.contexts import repair_masks
from groundlots.errors import BadParts, Contrary, NotThere, Twice
from groundlots.labels import Reach
from groundlots.rules import Rule, wanted_plain
from groundlots.telling import check_room
from groundlots.words import is_name, is_number, wanted_name, wanted_names

MOST_PARTS = 8
MOST_SHARES = 1000


class Machine:
    """Parts, each broken by a share, rules of what is held where parts are whole, and what was seen.

    A set of parts that are whole stands as a mask over the parts, rising.
    """

    def __init__(self, parts, rules):
        self._parts = wanted_parts(parts)
        self._rules = wanted_plain(rules)
        check_room(self._rules, self._parts)
        self._seen = {}

    def see(self, name, *, there=True):
        """The name was seen to be held, or not to be; BadName, Twice, TooMany."""
        self._seen = self._with_seen(self._seen, wanted_name(name), there)

    def unsee(self, name):
        """The name was not seen, after all; BadName, NotThere."""
        if wanted_name(name) not in self._seen:
            raise NotThere(name)
        self._seen = {one: self._seen[one] for one in self._seen if one != name}

    def see_all(self, names, *, there=True):
        """All the names were seen, or, where one is refused, none; BadNames, Twice, TooMany."""
        seen = self._seen
        for name in wanted_names(names):
            seen = self._with_seen(seen, name, there)
        self._seen = seen

    def seen(self):
        """A dict from the names that were seen, rising, to whether they were held."""
        return {name: self._seen[name] for name in sorted(self._seen)}

    def diagnoses(self):
        """The lot of the least sets of parts that may be broken."""
        reach = self._reach()
        return reach.sets(repair_masks(reach))

    def share(self, part):
        """The share, in lowest terms, of the states in which the part is broken; NotThere, Contrary."""
        if not is_name(part) or part not in self._parts:
            raise NotThere(part)
        return self.shares()[part]

    def shares(self):
        """A dict from the parts, rising, to the shares by which they are broken; Contrary."""
        weights = weights_of(self._reach().sound(), self._parts)
        found = {}
        for at, part in enumerate(self._parts):
            broken = [weight for mask, weight in enumerate(weights) if not mask >> at & 1]
            found[part] = lowest_terms(sum(broken), sum(weights))
        return found

    def look(self, names):
        """The name whose share is nearest to a half, yet not 0 or 1, with it; None of none; BadNames, Contrary."""
        asked = wanted_names(names)
        reach = self._reach()
        weights = weights_of(reach.sound(), self._parts)
        total = sum(weights)
        found = []
        for name in asked:
            held = sum([weight for weight, bears in zip(weights, reach.bearing(name)) if bears])
            if 0 < held < total:
                # The distance from a half, by the same measure for all names.
                found.append((abs(held + held - total), name, held))
        if not found:
            return None
        _, name, held = min(found)
        return (name, lowest_terms(held, total))

    def _with_seen(self, seen, name, there):
        """What was seen, with a name more; Twice, TooMany."""
        if name in seen:
            raise Twice(name)
        more = {**seen, name: there}
        check_room(self._rules + rules_of(more), self._parts)
        return more

    def _reach(self):
        """What each set of whole parts holds, by the rules and what was seen."""
        return Reach(self._rules + rules_of(self._seen), self._parts)


def wanted_parts(thing):
    """A dict of the parts, names rising, else BadParts."""
    if not is_parts(thing):
        raise BadParts("these are no parts")
    return {name: thing[name] for name in sorted(thing)}


def is_parts(thing):
    """Whether a thing, which may be anything, is a dict from 1 to 8 names to pairs of numbers."""
    if not isinstance(thing, dict) or not 1 <= len(thing) <= MOST_PARTS:
        return False
    return all([is_name(name) and is_pair(thing[name]) for name in thing])


def is_pair(thing):
    """Whether a thing, which may be anything, is a tuple of two rising numbers from 1 to 1000."""
    if not isinstance(thing, tuple) or len(thing) != 2:
        return False
    return is_number(thing[0]) and is_number(thing[1]) and 1 <= thing[0] < thing[1] <= MOST_SHARES


def rules_of(seen):
    """The rules that say what was seen."""
    return [Rule(name) if seen[name] else Rule(None, [name]) for name in seen]


def weights_of(sound, parts):
    """For each set of parts, by its mask, its weight where it is a state, else 0; Contrary where none is.

    All weights are by the product of the parts' second numbers, so that they
    are whole numbers, and each is above 0.
    """
    if True not in sound:
        raise Contrary("there is no state")
    return [weight_of(mask, parts) if sound[mask] else 0 for mask in range(len(sound))]


def weight_of(mask, parts):
    """The weight of a set of whole parts."""
    weight = 1
    for at, part in enumerate(parts):
        broken, of = parts[part]
        weight = weight * (of - broken if mask >> at & 1 else broken)
    return weight


def lowest_terms(some, total):
    """The share of some in a total, in lowest terms."""
    common = gcd(some, total)
    return (some // common, total // common)

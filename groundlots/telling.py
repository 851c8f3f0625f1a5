"""Rules under numbers, told and dropped by deeds that can be taken back and done again."""

from groundlots.errors import BadRule, NoDeed, NoRule, NotThere, TooMany, Twice
from groundlots.rules import MOST_RULES, Rule, names_in
from groundlots.words import MOST_NAMES, is_number, wanted_name


class Telling:
    """Rules of any kind under numbers; what Network and Keeper have in common.

    All that stands is one dict, which is never changed: each deed puts another
    one in its place. So a deed is taken back by putting back the one that stood
    ahead of it, and twins may share them.
    """

    def __init__(self):
        self._now = {"rules": (), "last": 0, "names": ()}
        # What stood ahead of the last deed, taking back or doing again.
        self._ahead = None
        # Pairs of a deed's row and what stood ahead of it, or, once it is taken back, behind it.
        self._done = []
        self._undone = []

    def tell(self, rule):
        """Takes the rule in and gives its number; BadRule, TooMany."""
        new = self._with_rule(rule)
        self._do(("tell", rule.told()), new)
        return new["last"]

    def drop(self, number):
        """Takes the rule of that number out and gives it; NoRule."""
        # True is equal to 1, but no number.
        found = [rule for one, rule in self._now["rules"] if is_number(number) and one == number]
        if not found:
            raise NoRule(number)
        rest = tuple([pair for pair in self._now["rules"] if pair[0] != number])
        self._do(("drop", number), {"rules": rest})
        return found[0]

    def rules(self):
        """The list of pairs (number, rule), rising."""
        return list(self._now["rules"])

    def back(self):
        """Takes the last deed back that stands; NoDeed."""
        if not self._done:
            raise NoDeed("no deed stands")
        row, ahead = self._done.pop()
        self._undone.append((row, self._now))
        self._turn(ahead)

    def again(self):
        """Does the deed again that was taken back last; NoDeed."""
        if not self._undone:
            raise NoDeed("no deed can be done again")
        row, behind = self._undone.pop()
        self._done.append((row, self._now))
        self._turn(behind)

    def log(self):
        """The list of the deeds that stand."""
        return [row for row, _ in self._done]

    def twin(self):
        """Another one that tells all alike, with what can be taken back and done again."""
        other = Telling()
        self._give(other)
        return other

    def _standing(self):
        """The list of the rules that stand, in the order of their numbers."""
        return [rule for _, rule in self._now["rules"]]

    def _with_rule(self, rule):
        """What a rule more makes other; BadRule, TooMany."""
        if not isinstance(rule, Rule):
            raise BadRule("this is no rule")
        check_room([*self._standing(), rule], self._now["names"])
        number = self._now["last"] + 1
        return {"rules": (*self._now["rules"], (number, rule)), "last": number}

    def _with_name(self, name):
        """What a name more makes other; BadName, Twice, TooMany."""
        names = self._now["names"]
        if wanted_name(name) in names:
            raise Twice(name)
        check_room(self._standing(), (*names, name))
        return {"names": (*names, name)}

    def _without_name(self, name):
        """What a name less makes other; BadName, NotThere."""
        names = self._now["names"]
        if wanted_name(name) not in names:
            raise NotThere(name)
        return {"names": tuple([one for one in names if one != name])}

    def _do(self, row, new):
        """Does a deed: new are those things of what stands that it makes other ones."""
        self._done.append((row, self._now))
        self._undone.clear()
        behind = dict(self._now)
        behind.update(new)
        self._turn(behind)

    def _turn(self, state):
        """Lets another state stand."""
        self._ahead = self._now
        self._now = state

    def _give(self, other):
        """Makes another one tell all that this one tells."""
        other._now = self._now
        other._ahead = self._ahead
        other._done = list(self._done)
        other._undone = list(self._undone)


def check_room(rules, names):
    """TooMany where these are more rules than a base may have, or more names in all."""
    if len(rules) > MOST_RULES or len(names_in(rules, names)) > MOST_NAMES:
        raise TooMany("these are more than 40 rules, or more than 24 names")

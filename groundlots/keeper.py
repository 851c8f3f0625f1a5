"""A keeper of one standing of rules of any kind under deeds."""

from groundlots.errors import NotHeld, TooMany
from groundlots.held import needed, steps
from groundlots.lots import lot, set_of
from groundlots.standings import all_standings, names_unless, reduced
from groundlots.telling import Telling
from groundlots.words import wanted_name

MOST_UNSETTLED = 6
MOST_SOFT = 4


class Keeper(Telling):
    """Rules and grounds, told and dropped by deeds, and that one of their standings at which it stands.

    Where it stands, and stood last, is part of what a deed makes other. So
    taking back and doing again bring it back as it was then.
    """

    def __init__(self):
        Telling.__init__(self)
        self._now = {**self._now, "soft": (), "stands": (), "stood": ()}

    def tell(self, rule, *, soft=False):
        """Takes the rule in and gives its number; BadRule, TooMany."""
        new = self._with_rule(rule)
        numbers = (*self._soft(), new["last"]) if soft else self._soft()
        if len(names_unless([*self._standing(), rule])) > MOST_UNSETTLED or len(numbers) > MOST_SOFT:
            raise TooMany("these are more than 6 names behind a not, or more than 4 soft rules")
        self._do(("tell", rule.told(), soft), {**new, "soft": numbers})
        return new["last"]

    def drop(self, number):
        """Takes the rule of that number out and gives it; NoRule."""
        return super().drop(number)

    def rules(self):
        """The list of pairs (number, rule), rising."""
        return super().rules()

    def back(self):
        """Takes the last deed back that stands; NoDeed."""
        super().back()

    def again(self):
        """Does the deed again that was taken back last; NoDeed."""
        super().again()

    def log(self):
        """The list of the deeds that stand."""
        return super().log()

    def twin(self):
        """Another one that tells all alike, with what can be taken back and done again."""
        other = Keeper()
        self._give(other)
        return other

    def ground(self, name):
        """Takes the name in as a ground; BadName, Twice, TooMany."""
        self._do(("ground", name), self._with_name(name))

    def unground(self, name):
        """Takes the ground out; BadName, NotThere."""
        self._do(("unground", name), self._without_name(name))

    def grounds(self):
        """The rising list of the grounds."""
        return sorted(self._now["names"])

    def stands(self):
        """The rising list of the names at which it stands; None where it stands nowhere."""
        there = self._now["stands"]
        return None if there is None else list(there)

    def came(self):
        """The rising list of the names that it has and had not where it stood last ahead of the last change."""
        there, ahead = self._moved()
        return beyond(there, ahead)

    def went(self):
        """The rising list of the names that it had where it stood last ahead of the last change, and has not."""
        there, ahead = self._moved()
        return beyond(ahead, there)

    def culprits(self):
        """The lot of the least sets of numbers of soft rules without which there is a standing."""
        numbers = self._soft()
        sets = [set_of(mask, numbers) for mask in range(1 << len(numbers))]
        return lot([one for one in sets if self._stands_without(one)])

    def why(self, name):
        """A paper, by the rules' numbers, that the name is held where it stands; BadName, NotHeld."""
        goal = wanted_name(name)
        there = self._now["stands"]
        if there is None or goal not in there:
            raise NotHeld("it does not stand at this")
        pairs = [(number, plain) for number, rule in self._now["rules"] for plain in reduced([rule], there)]
        rules = [plain for _, plain in pairs]
        return [pairs[place][0] for place in needed(rules, steps(rules, self._now["names"]), goal)]

    def _do(self, row, new):
        """Does a deed and goes to the nearest standing; where there is none, the last one is remembered."""
        behind = {**self._now, **new}
        last = self._now["stood"]
        there = nearest(all_standings([rule for _, rule in behind["rules"]], behind["names"]), last)
        super()._do(row, {**new, "stands": there, "stood": last if there is None else there})

    def _soft(self):
        """The numbers of the soft rules that stand, rising."""
        return tuple([number for number, _ in self._now["rules"] if number in self._now["soft"]])

    def _moved(self):
        """Where it stands and where it stood last ahead of the last change, two sets; both empty where none is told."""
        there = self._now["stands"]
        if there is None or self._ahead is None:
            return ((), ())
        return (there, self._ahead["stood"])

    def _stands_without(self, numbers):
        """Whether there is a standing without the rules of these numbers."""
        rest = [rule for number, rule in self._now["rules"] if number not in numbers]
        return all_standings(rest, self._now["names"]) != []


def nearest(sets, last):
    """The first of those sets that differ in the fewest things from the last one; None of no sets."""
    return min(sets, key=lambda one: len(beyond(one, last) + beyond(last, one)), default=None)


def beyond(one, other):
    """The list of the things of one set that the other has not."""
    return [thing for thing in one if thing not in other]

"""A network of plain rules and assumed names under deeds."""

from groundlots.errors import NoLog, NotPlain, NotThere, TooMany
from groundlots.held import rounds
from groundlots.labels import MOST_ASSUMED, Reach, contradictions_by, label_by, labels_by, lacking_by, masks_reached
from groundlots.rules import Rule, names_in, rule_of, wanted_plain
from groundlots.telling import Telling
from groundlots.words import wanted_name, wanted_names

MOST_DEEDS = 200
DEED_WORDS = ("tell", "drop", "assume", "unassume")


class Network(Telling):
    """Plain rules and assumed names, told and dropped by deeds, and what they bear."""

    def __init__(self, *, may=(), rules=()):
        names = wanted_names(may)
        if len(names) > MOST_ASSUMED:
            raise TooMany("these are more than 10 assumed names")
        base = wanted_plain(rules)
        Telling.__init__(self)
        # More than 24 names of both are refused by the deeds.
        for name in names:
            self.assume(name)
        for rule in base:
            self.tell(rule)

    def tell(self, rule):
        """Takes the plain rule in and gives its number; BadRule, NotPlain, TooMany."""
        if isinstance(rule, Rule) and rule.unless != ():
            raise NotPlain("plain rules alone are wanted here")
        return super().tell(rule)

    def drop(self, number):
        """Takes the rule of that number out and gives it; NoRule."""
        return super().drop(number)

    def rules(self):
        """The list of pairs (number, rule), rising."""
        return super().rules()

    def back(self):
        """Takes the last deed back that stands; NoDeed."""
        super().back()

    def again(self):
        """Does the deed again that was taken back last; NoDeed."""
        super().again()

    def log(self):
        """The list of the deeds that stand."""
        return super().log()

    def twin(self):
        """Another one that tells all alike, with what can be taken back and done again."""
        other = Network()
        self._give(other)
        return other

    def assume(self, name):
        """Assumes the name; BadName, Twice, TooMany."""
        new = self._with_name(name)
        if len(new["names"]) > MOST_ASSUMED:
            raise TooMany("this is an eleventh assumed name")
        self._do(("assume", name), new)

    def unassume(self, name):
        """Assumes the name no more; BadName, NotThere."""
        self._do(("unassume", name), self._without_name(name))

    def may(self):
        """The rising list of the assumed names."""
        return sorted(self._now["names"])

    def label(self, name):
        """The lot of the least sound sets of assumed names by which the name is held; BadName."""
        return label_by(reach_of(self._now), wanted_name(name))

    def labels(self):
        """A dict from all names that stand, rising, to their labels."""
        return labels_by(reach_of(self._now))

    def contradictions(self):
        """The lot of the least sets of assumed names that are not sound."""
        return contradictions_by(reach_of(self._now))

    def lacking(self, name):
        """The greatest sound sets of assumed names by which the name is not held; BadName."""
        return lacking_by(reach_of(self._now), wanted_name(name))

    def held(self, some):
        """The rising list of what is held by some assumed names; BadNames, NotThere."""
        names = wanted_names(some)
        for name in sorted(names):
            if name not in self._now["names"]:
                raise NotThere(name)
        return sorted(rounds(self._standing(), names))

    def touched(self):
        """The rising list of the names whose label is another than ahead of the last change."""
        if self._ahead is None:
            return []
        old = labels_by(reach_of(self._ahead))
        new = labels_by(reach_of(self._now))
        names = sorted(set(list(old) + list(new)))
        return [name for name in names if old.get(name, []) != new.get(name, [])]

    def jolted(self):
        """Whether the contradictions are others than ahead of the last change."""
        if self._ahead is None:
            return False
        return contradictions_by(reach_of(self._ahead)) != contradictions_by(reach_of(self._now))

    def idle(self):
        """The rising list of the numbers of rules of which each alone may go without any change."""
        may = self.may()
        names = names_in(self._standing(), may)
        whole = masks_reached(self._standing(), may, names)
        found = []
        for number, _ in self._now["rules"]:
            rest = [rule for one, rule in self._now["rules"] if one != number]
            # Over the same names, so a name that then stands nowhere is held by none.
            if masks_reached(rest, may, names) == whole:
                found.append(number)
        return found

    def all_done(self, deeds):
        """The list of what each of the deeds gives, all of them done, or, where one is refused, none; NoLog."""
        rows = wanted_rows(deeds)
        trial = self.twin()
        given = []
        for word, thing in rows:
            given.append(trial._deed(word, thing))
        trial._give(self)
        return given

    def _deed(self, word, thing):
        """Does the deed that a row tells and gives what it gives."""
        if word == "tell":
            return self.tell(rule_of(thing))
        if word == "drop":
            return self.drop(thing)
        return self.assume(thing) if word == "assume" else self.unassume(thing)


def replayed(log):
    """A new network behind all the deeds of a log; NoLog, and what the deeds are refused with."""
    made = Network()
    made.all_done(log)
    return made


def reach_of(state):
    """What each set of the names that are assumed in a state reaches."""
    return Reach([rule for _, rule in state["rules"]], state["names"])


def wanted_rows(deeds):
    """A list of at most 200 deeds' rows, whatever their things are; else NoLog."""
    if not isinstance(deeds, (list, tuple)):
        raise NoLog(0)
    for at, row in enumerate(deeds[:MOST_DEEDS]):
        if not is_row(row):
            raise NoLog(at)
    if len(deeds) > MOST_DEEDS:
        raise NoLog(MOST_DEEDS)
    return list(deeds)


def is_row(thing):
    """Whether a thing, which may be anything, is a tuple of a deed's word and one thing."""
    return isinstance(thing, tuple) and len(thing) == 2 and thing[0] in DEED_WORDS

"""Rules: which name is held where others are and some are not; and bases of rules."""

from groundlots.errors import BadNames, BadRule, BadRules, NotPlain
from groundlots.words import MOST_NAMES, is_name, is_names, wanted_names

MOST_RULES = 40
MOST_BODY = 6
MOST_UNLESS = 4


class Rule:
    """Where all of body are held and none of unless is, head is held; without a head, this must not be."""

    def __init__(self, head, body=(), *, unless=()):
        if head is not None and not is_name(head):
            raise BadRule("the head is no name")
        if not is_names(body, MOST_BODY):
            raise BadRule("the body is no list of at most 6 unlike names")
        if not is_names(unless, MOST_UNLESS):
            raise BadRule("the unless is no list of at most 4 unlike names")
        self.head = head
        self.body = tuple(body)
        self.unless = tuple(unless)

    def told(self):
        """The rule as a tuple, of which rule_of makes it again."""
        return ("rule", self.head, self.body, self.unless)

    def text(self):
        """The rule as a text, as in `a <- b, not d` or `never b, not d`."""
        grounds = ", ".join(list(self.body) + [f"not {name}" for name in self.unless])
        if self.head is None:
            return f"never {grounds}" if grounds else "never"
        return f"{self.head} <- {grounds}" if grounds else self.head

    def __str__(self):
        return str(self.text())

    def __eq__(self, other):
        return (isinstance(other, Rule) and self.head == other.head
                and self.body == other.body and self.unless == other.unless)


def rule_of(told):
    """The rule that tells just so; BadRule of anything that none tells."""
    if not isinstance(told, tuple) or len(told) != 4:
        raise BadRule("this is no tuple of four")
    word, head, body, unless = told
    if word != "rule" or not isinstance(body, tuple) or not isinstance(unless, tuple):
        raise BadRule("this is nothing that a rule tells")
    return Rule(head, body, unless=unless)


def names_in(rules, more=()):
    """The rising list of the names that stand in rules or are more ones."""
    found = {name: True for name in more}
    for rule in rules:
        for name in (rule.head, *rule.body, *rule.unless):
            if name is not None:
                found[name] = True
    return sorted(found)


def is_base(thing):
    """Whether a thing, which may be anything, is a list of at most 40 rules with at most 24 names."""
    if not isinstance(thing, (list, tuple)) or len(thing) > MOST_RULES:
        return False
    return all([isinstance(one, Rule) for one in thing]) and len(names_in(thing)) <= MOST_NAMES


def wanted_base(thing):
    """A list of the rules of a base, else BadRules."""
    if not is_base(thing):
        raise BadRules("this is no base")
    return list(thing)


def wanted_plain(thing):
    """A list of the rules of a base of plain ones; BadRules, NotPlain."""
    base = wanted_base(thing)
    if any([rule.unless != () for rule in base]):
        raise NotPlain("plain rules alone are wanted here")
    return base


def wanted_beside(thing, rules, most=MOST_NAMES):
    """A tuple of the names of a list that goes with rules, 24 names in both at most; else BadNames."""
    names = wanted_names(thing, most)
    if len(names_in(rules, names)) > MOST_NAMES:
        raise BadNames("with those of the rules these are more than 24 names")
    return names

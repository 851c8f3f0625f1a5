"""Texts of rules and of whole bases, written and read."""

from groundlots.errors import BadRule, NoText
from groundlots.rules import Rule, is_base, names_in, wanted_base, wanted_beside
from groundlots.words import MOST_NAMES, is_name


def read_rule(text):
    """The rule of a text like that which a rule has; NoText(1) of anything else."""
    rule = rule_in(words_in(text)) if isinstance(text, str) else None
    if rule is None:
        raise NoText(1)
    return rule


def base_text(rules, may=()):
    """The text of a base: a row for each name of may, rising, and for each rule, in order."""
    base = wanted_base(rules)
    names = wanted_beside(may, base)
    rows = [f"may {name}\n" for name in sorted(names)] + [f"{rule.text()}\n" for rule in base]
    return "".join(rows)


def read_base(text):
    """The pair (rules, may) of a text like that of a base; NoText of the first row that is none, or of 0."""
    if not isinstance(text, str):
        raise NoText(0)
    rules = []
    may = {}
    for at, row in enumerate(text.split("\n"), start=1):
        words = words_in(row)
        if words and words[0] == "may":
            if len(words) != 2 or not is_name(words[1]) or words[1] in may:
                raise NoText(at)
            may[words[1]] = True
        elif words:
            rule = rule_in(words)
            if rule is None:
                raise NoText(at)
            rules.append(rule)
    if not is_base(rules) or len(names_in(rules, may)) > MOST_NAMES:
        raise NoText(0)
    return (rules, sorted(may))


def words_in(row):
    """What stands between the blanks of a row; a comma and `<-` need none round them."""
    parted = row.replace(",", " , ").replace("<-", " <- ")
    return [word for word in parted.split(" ") if word]


def rule_in(words):
    """The rule that words tell; None where they tell none."""
    if not words:
        return None
    if words[0] == "never":
        return rule_with(None, words[1:])
    if len(words) == 1:
        return rule_with(words[0], [])
    # Behind `<-` something must stand, while a never may stand alone.
    return rule_with(words[0], words[2:]) if words[1] == "<-" and len(words) > 2 else None


def rule_with(head, words):
    """The rule with a head and with the body and unless that words tell, mixed; None where there is none."""
    body = []
    unless = []
    parts = parts_of(words) if words else []
    for part in parts:
        if len(part) == 1:
            body.append(part[0])
        elif len(part) == 2 and part[0] == "not":
            unless.append(part[1])
        else:
            return None
    try:
        return Rule(head, body, unless=unless)
    except BadRule:
        return None


def parts_of(words):
    """The words parted by commas: one list more than there are commas, also an empty one."""
    parts = [[]]
    for word in words:
        if word == ",":
            parts.append([])
        else:
            parts[-1].append(word)
    return parts

"""What is held by grounds, and what shows it or shuts it out. Rules are plain here."""

from groundlots.errors import IsHeld, NotHeld
from groundlots.rules import wanted_beside, wanted_plain
from groundlots.words import is_names, is_number, wanted_name_or_none


def held(rules, grounds):
    """The rising list of the names that are held by the grounds."""
    base, given = wanted(rules, grounds)
    return sorted(rounds(base, given))


def clash(rules, grounds):
    """Whether some never has all its body held by the grounds."""
    base, given = wanted(rules, grounds)
    return first_never(base, rounds(base, given)) is not None


def levels(rules, grounds):
    """A dict from the held names, rising, to the rounds in which they come in; 0 of grounds."""
    base, given = wanted(rules, grounds)
    found = rounds(base, given)
    return {name: found[name] for name in sorted(found)}


def why(rules, grounds, name):
    """A paper without needless places that the name is held, or that there is a clash; else NotHeld."""
    base, given = wanted(rules, grounds)
    goal = wanted_name_or_none(name)
    if goal in given:
        return []
    paper = needed(base, steps(base, given), goal)
    if not paper:
        raise NotHeld("no paper shows this")
    return paper


def shows(rules, grounds, name, paper):
    """Whether paper, which may be anything, is a paper that the name is held, or that there is a clash."""
    base, given = wanted(rules, grounds)
    goal = wanted_name_or_none(name)
    if not isinstance(paper, (list, tuple)):
        return False
    there = {one: True for one in given}
    for at, place in enumerate(paper):
        if not is_place(place, base) or not has_all(there, base[place].body):
            return False
        if base[place].head is None and at + 1 < len(paper):
            return False
        there[base[place].head] = True
    return base[paper[-1]].head == goal if paper else goal in given


def why_not(rules, grounds, name):
    """The rising list of all that is held, without the name or a clash; else IsHeld."""
    base, given = wanted(rules, grounds)
    goal = wanted_name_or_none(name)
    found = rounds(base, given)
    if goal in found or (goal is None and first_never(base, found) is not None):
        raise IsHeld("this is held")
    return sorted(found)


def shuts(rules, grounds, name, names):
    """Whether names, which may be anything, is a closed list of names without the name or a clash."""
    base, given = wanted(rules, grounds)
    goal = wanted_name_or_none(name)
    if not is_names(names):
        return False
    there = {one: True for one in names}
    if not has_all(there, given) or next_heads(base, there):
        return False
    return first_never(base, there) is None if goal is None else goal not in there


def wanted(rules, grounds):
    """The plain rules as a list and the grounds as a tuple; BadRules, NotPlain, BadNames."""
    base = wanted_plain(rules)
    return (base, wanted_beside(grounds, base))


def has_all(there, names):
    """Whether all names are keys of a dict."""
    return all([name in there for name in names])


def is_place(thing, rules):
    """Whether a thing, which may be anything, is a place in rules."""
    return is_number(thing) and 0 <= thing < len(rules)


def first_never(rules, there):
    """The place of the first never whose body is there; None where there is none."""
    for place, rule in enumerate(rules):
        if rule.head is None and has_all(there, rule.body):
            return place
    return None


def next_heads(rules, there):
    """The heads that are not there, of rules whose body is."""
    return [rule.head for rule in rules
            if rule.head is not None and rule.head not in there and has_all(there, rule.body)]


def rounds(rules, grounds):
    """A dict from the held names, in the order of their rounds, to these."""
    found = {name: 0 for name in grounds}
    number = 0
    come = next_heads(rules, found)
    while come:
        number += 1
        for name in come:
            found[name] = number
        come = next_heads(rules, found)
    return found


def steps(rules, grounds):
    """The places of the rules that bring in one by one all that is held, and, where there is a clash, of a never."""
    there = {name: True for name in grounds}
    found = []
    many = -1
    while len(found) > many:
        many = len(found)
        for place, rule in enumerate(rules):
            if rule.head is not None and rule.head not in there and has_all(there, rule.body):
                there[rule.head] = True
                found.append(place)
    never = first_never(rules, there)
    return found if never is None else found + [never]


def needed(rules, places, goal):
    """Those places of which the goal has need.

    Each head comes in by one of the places alone and is no ground: so none of
    those that are kept can be left out. A never brings in nothing that a name
    has need of.
    """
    names = {goal: True}
    kept = []
    for place in places[::-1]:
        if rules[place].head in names:
            kept.append(place)
            for name in rules[place].body:
                names[name] = True
    return kept[::-1]

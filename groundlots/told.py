"""Texts of names, sets and rules, as the desk tells them."""


def names_text(things):
    """Names or numbers with a blank between; `none` where there are none."""
    return joined_text(things) if things else "none"


def set_text(things):
    """A set, or a paper's numbers, with a blank between; `-` where there is nothing in it."""
    return joined_text(things) if things else "-"


def sets_text(sets):
    """Sets with `|` between; `none` where there is no set."""
    return " | ".join([set_text(one) for one in sets]) if sets else "none"


def rules_text(pairs):
    """Pairs of a number and a rule with `;` between; `none` where there are none."""
    return "; ".join([f"{number} {rule.text()}" for number, rule in pairs]) if pairs else "none"


def joined_text(things):
    """Things with a blank between."""
    return " ".join([str(one) for one in things])

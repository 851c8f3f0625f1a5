"""Names, lists of names, and numbers."""

from groundlots.errors import BadName, BadNames

LONGEST_NAME = 8
MOST_NAMES = 24

# These stand for themselves in the texts of rules and bases.
TAKEN_WORDS = ("not", "never", "may")


def is_name(thing):
    """Whether a thing, which may be anything, is a name."""
    if not isinstance(thing, str) or not 1 <= len(thing) <= LONGEST_NAME:
        return False
    return thing not in TAKEN_WORDS and all([is_small_letter(sign) for sign in thing])


def is_small_letter(sign):
    """Whether one sign of a text is a letter from a to z."""
    return "a" <= sign <= "z"


def is_names(thing, most=MOST_NAMES):
    """Whether a thing, which may be anything, is a list of at most so many unlike names."""
    if not isinstance(thing, (list, tuple)) or len(thing) > most:
        return False
    # What is no name may have no place in a set, so names are looked for first.
    return all([is_name(one) for one in thing]) and len(set(thing)) == len(thing)


def is_number(thing):
    """Whether a thing, which may be anything, is a number: True and False are none."""
    return isinstance(thing, int) and not isinstance(thing, bool)


def wanted_name(thing):
    """The thing, which is a name, else BadName."""
    if not is_name(thing):
        raise BadName("this is no name")
    return thing


def wanted_name_or_none(thing):
    """The thing, which is a name or None, else BadName."""
    if thing is None:
        return None
    return wanted_name(thing)


def wanted_names(thing, most=MOST_NAMES):
    """A tuple of the names of a list of at most so many unlike ones, else BadNames."""
    if not is_names(thing, most):
        raise BadNames("this is no list of names")
    return tuple(thing)

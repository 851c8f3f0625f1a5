"""The desk: rows of words asked, and texts answered."""

from groundlots.change import given_up
from groundlots.contexts import contexts, in_all, in_some, repairs
from groundlots.errors import GroundError, NotThere
from groundlots.held import why
from groundlots.network import Network
from groundlots.ranks import MIDDLE, best, firm, wanted_rank
from groundlots.texts import read_rule
from groundlots.told import names_text, rules_text, set_text, sets_text
from groundlots.words import is_name

MOST_FIGURES = 3


def do_back(desk):
    """Takes the last deed back."""
    desk.network.back()
    return "ok"


def do_again(desk):
    """Does the last deed again that was taken back."""
    desk.network.again()
    return "ok"


def tell_against(desk):
    """The contradictions."""
    return sets_text(desk.network.contradictions())


def tell_repairs(desk):
    """The repairs."""
    return sets_text(repairs(rules_of(desk), desk.network.may()))


def tell_contexts(desk):
    """The contexts."""
    return sets_text(contexts(rules_of(desk), desk.network.may()))


def tell_best(desk):
    """The best contexts."""
    return sets_text(best(rules_of(desk), ranks_of(desk)))


def tell_touched(desk):
    """The names that the last change touched."""
    return names_text(desk.network.touched())


def tell_all(desk):
    """The names that are held by all contexts."""
    return names_text(in_all(rules_of(desk), desk.network.may()))


def tell_some(desk):
    """The names that are held by some context."""
    return names_text(in_some(rules_of(desk), desk.network.may()))


def tell_idle(desk):
    """The numbers of the rules of which each alone may go without any change."""
    return names_text(desk.network.idle())


def tell_rules(desk):
    """The rules with their numbers."""
    return rules_text(desk.network.rules())


def do_may(desk, name):
    """Assumes the name."""
    desk.network.assume(name)
    return "ok"


def do_unmay(desk, name):
    """Assumes the name no more."""
    desk.network.unassume(name)
    return "ok"


def tell_label(desk, name):
    """The label of the name."""
    return sets_text(desk.network.label(name))


def tell_lacking(desk, name):
    """The greatest sound sets that lack the name."""
    return sets_text(desk.network.lacking(name))


def tell_firm(desk, name):
    """How firmly the name is held."""
    return str(firm(rules_of(desk), ranks_of(desk), name))


def tell_off(desk, name):
    """What is given up so that the name is held no more."""
    return set_text(given_up(rules_of(desk), ranks_of(desk), name))


# What answers a word that stands alone, and one that a name stands behind.
ALONE = {
    "back": do_back, "again": do_again, "against": tell_against, "repairs": tell_repairs, "contexts": tell_contexts,
    "best": tell_best, "touched": tell_touched, "all": tell_all, "some": tell_some, "idle": tell_idle,
    "rules": tell_rules,
}
OF_NAME = {
    "may": do_may, "unmay": do_unmay, "label": tell_label, "lacking": tell_lacking, "firm": tell_firm,
    "off": tell_off,
}


class Desk:
    """A network and ranks, asked by rows of words."""

    def __init__(self):
        self.network = Network()
        # Also those of names that are assumed no more.
        self.ranks = {}

    def answer(self, row):
        """The answer to a row."""
        if not isinstance(row, str):
            return "what"
        words = [word for word in row.split(" ") if word]
        if not words:
            return ""
        try:
            return answered(self, words[0], words[1:])
        except GroundError as refusal:
            return "refused " + refusal.__class__.__name__.lower()


def answers(text):
    """The list of the answers of a new desk to the rows of a text."""
    desk = Desk()
    return [desk.answer(row) for row in text.split("\n")]


def answered(desk, word, more):
    """The answer to a word and more words behind it."""
    if word in ALONE and not more:
        action = ALONE[word]
        return action(desk)
    if word in OF_NAME and len(more) == 1 and is_name(more[0]):
        action = OF_NAME[word]
        return action(desk, more[0])
    if word == "tell" and more:
        return str(desk.network.tell(read_rule(" ".join(more))))
    if word == "drop" and len(more) == 1 and is_figures(more[0]):
        return desk.network.drop(int(more[0])).text()
    if word == "rank" and len(more) == 2 and is_name(more[0]) and is_figures(more[1]):
        return do_rank(desk, more[0], int(more[1]))
    if word == "held" and are_names(more):
        return names_text(desk.network.held(more))
    if word == "why" and len(more) > 1 and is_name(more[0]) and more[1] == "by" and are_names(more[2:]):
        return tell_why(desk, more[0], more[2:])
    return "what"


def do_rank(desk, name, number):
    """Gives an assumed name a rank; NotThere, BadRanks."""
    if name not in desk.network.may():
        raise NotThere(name)
    desk.ranks[name] = wanted_rank(number)
    return "ok"


def tell_why(desk, name, names):
    """The numbers of a paper that the name is held by assumed names; BadNames, NotThere, NotHeld."""
    # Asked for its refusals alone.
    desk.network.held(names)
    numbers = [number for number, _ in desk.network.rules()]
    return set_text([numbers[place] for place in why(rules_of(desk), names, name)])


def rules_of(desk):
    """The list of the rules that stand."""
    return [rule for _, rule in desk.network.rules()]


def ranks_of(desk):
    """The ranks of the assumed names."""
    return {name: desk.ranks.get(name, MIDDLE) for name in desk.network.may()}


def are_names(words):
    """Whether all words are names."""
    return all([is_name(word) for word in words])


def is_figures(word):
    """Whether a word is a number of 1 to 3 figures without noughts ahead of another."""
    if len(word) > MOST_FIGURES or not all(["0" <= sign <= "9" for sign in word]):
        return False
    return word == "0" or word[0] != "0"

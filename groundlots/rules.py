"""Rules: which name is held where others are and some are not."""

from groundlots.errors import BadRule
from groundlots.words import is_name, is_names

MOST_BODY = 6
MOST_UNLESS = 4


class Rule:
    """Where all of body are held and none of unless is, head is held; without a head, this must not be."""

    def __init__(self, head, body=(), *, unless=()):
        if head is not None and not is_name(head):
            raise BadRule("the head is no name")
        if not is_names(body, MOST_BODY):
            raise BadRule("the body is no list of at most 6 unlike names")
        if not is_names(unless, MOST_UNLESS):
            raise BadRule("the unless is no list of at most 4 unlike names")
        self.head = head
        self.body = tuple(body)
        self.unless = tuple(unless)

    def told(self):
        """The rule as a tuple, of which rule_of makes it again."""
        return ("rule", self.head, self.body, self.unless)

    def text(self):
        """The rule as a text, as in `a <- b, not d` or `never b, not d`."""
        grounds = ", ".join(list(self.body) + [f"not {name}" for name in self.unless])
        if self.head is None:
            return f"never {grounds}" if grounds else "never"
        return f"{self.head} <- {grounds}" if grounds else self.head

    def __str__(self):
        return str(self.text())

    def __eq__(self, other):
        return (isinstance(other, Rule) and self.head == other.head
                and self.body == other.body and self.unless == other.unless)


def rule_of(told):
    """The rule that tells just so; BadRule of anything that none tells."""
    if not isinstance(told, tuple) or len(told) != 4:
        raise BadRule("this is no tuple of four")
    word, head, body, unless = told
    if word != "rule" or not isinstance(body, tuple) or not isinstance(unless, tuple):
        raise BadRule("this is nothing that a rule tells")
    return Rule(head, body, unless=unless)

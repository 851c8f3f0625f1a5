"""[12] and [13]: texts of rules and of bases, written and read."""

import itertools
import random
import unittest

from groundlots import texts
from groundlots.errors import BadNames, BadRules, NoText
from groundlots.rules import Rule
from groundlots.texts import base_text, read_base, read_rule
from refusing import Refusing
from things import LETTERS, LISTS, NEITHER, NO_BASES, NOT_PLAIN, base_with

GOOD = [
    ("a", Rule("a")),
    ("abcdefgh", Rule("abcdefgh")),
    ("a <- b", Rule("a", ["b"])),
    ("a <- c, b", Rule("a", ["c", "b"])),
    ("a <- b, not d", Rule("a", ["b"], unless=["d"])),
    ("a <- not d", Rule("a", unless=["d"])),
    ("a <- not e, not d", Rule("a", unless=["e", "d"])),
    ("a <- a, not a", Rule("a", ["a"], unless=["a"])),
    ("never", Rule(None)),
    ("never b", Rule(None, ["b"])),
    ("never c, b", Rule(None, ["c", "b"])),
    ("never b, not d", Rule(None, ["b"], unless=["d"])),
    ("never not d", Rule(None, unless=["d"])),
    # The names of body and those with `not` mixed: each keep their order.
    ("a <- not d, b", Rule("a", ["b"], unless=["d"])),
    ("a <- c, not e, b, not d", Rule("a", ["c", "b"], unless=["e", "d"])),
    ("never not d, c, not e, b", Rule(None, ["c", "b"], unless=["d", "e"])),
    ("a <- not w, f, not x, e, not y, d, not z, c, b, a",
     Rule("a", ["f", "e", "d", "c", "b", "a"], unless=["w", "x", "y", "z"])),
    # Blanks, or none.
    ("  a  ", Rule("a")),
    ("a<-b", Rule("a", ["b"])),
    ("a<-b,c", Rule("a", ["b", "c"])),
    ("a<-b,not d", Rule("a", ["b"], unless=["d"])),
    ("   a   <-   b   ,   not    d   ", Rule("a", ["b"], unless=["d"])),
    ("a <-b ,c", Rule("a", ["b", "c"])),
    ("a<- b,  c", Rule("a", ["b", "c"])),
    ("  never", Rule(None)),
    ("never   ", Rule(None)),
    ("never    not   d ,b", Rule(None, ["b"], unless=["d"])),
    # Words that only begin like others.
    ("nota", Rule("nota")),
    ("nevera", Rule("nevera")),
    ("maya <- notb, neverc", Rule("maya", ["notb", "neverc"])),
    ("a <- not nota", Rule("a", unless=["nota"])),
    ("never nevers", Rule(None, ["nevers"])),
]

BAD = [
    "", " ", "   ", "\n", "\t", ",", "<-", "<", "-", "not", "may", "not a", "may a", "not not", "a b", "a not b",
    "a <-", "a<-", "a <- ", "<- b", " <- b", "a <- ,", "a <- b,", "a <- ,b", "a <- b,,c", "a <- b, ,c", "a,", ",a",
    "a, b", "a b <- c", "a <- b c", "a <- b <- c", "a <- <- b", "a <-- b", "a < - b", "a <= b", "a - b", "a -> b",
    "a <- not", "a <- not not", "a <- not not b", "a <- not b c", "a <- b not c", "a <- not, b", "a <- not b, not",
    "a <- never", "a <- never b", "a <- may", "a <- may b", "a <- not may", "a <- not never", "a <- b, never",
    "never,", "never ,b", "never, b", "never b,", "never b c", "never <- b", "never<-b", "never never", "never not",
    "never may", "never not not b", "never b, not", "not <- b", "may <- b", "a never", "a never b",
    "A", "a <- B", "a1", "a.", "a;", "a <- b; c", "a <- b.", "ninechars", "a <- ninechars", "never ninechars",
    "a <- not ninechars", "a\n", "\na", "a\nb", "a <- b\n", "a\n<- b", "a\t", "\ta", "a\t<- b", "a <-\tb", "a <- b,\tc",
    "never\tb", "a <- not\tb", "never\n", "a <- not\nb", "'a'", "(a)", "a <- (b)", "a  <- b ! c", "# a", "a #",
    # Where Rule refuses.
    "a <- b, b", "a <- b, c, b", "never b, b", "a <- not b, not b", "never not b, not b", "a <- b, not c, b",
    "a <- a, b, c, d, e, f, g", "never a, b, c, d, e, f, g", "a <- not a, not b, not c, not d, not e",
    "a <- a, not v, b, not w, c, not x, d, not y, e, not z",
]


def some_rules():
    """Rules of all forms, with names in every place."""
    bodies = [(), ("b",), ("c", "b"), ("a", "notb", "mayc"), tuple("fedcba")]
    unlesses = [(), ("d",), ("e", "d"), ("a", "nevers"), tuple("zyxw")]
    return [Rule(head, body, unless=unless)
            for head, body, unless in itertools.product((None, "a", "nevers", "abcdefgh"), bodies, unlesses)]


def spaced(chance, rule):
    """A text of the rule with blanks anywhere, its names of body and those with `not` mixed."""
    def blanks(least):
        return " " * chance.choice((least, least, 1, 2, 5))
    places = [0] * len(rule.body) + [1] * len(rule.unless)
    chance.shuffle(places)
    names = [list(rule.body), list(rule.unless)]
    parts = [("not" + blanks(1) if kind else "") + names[kind].pop(0) for kind in places]
    text = "".join(parts[:1]) + "".join(blanks(0) + "," + blanks(0) + part for part in parts[1:])
    if rule.head is None:
        text = "never" + (blanks(1) if parts else "") + text
    else:
        text = rule.head + (blanks(0) + "<-" + blanks(0) if parts else "") + text
    return blanks(0) + text + blanks(0)


def some_bases(many):
    """Pairs of a base of any kind and a list of names that goes with it."""
    chance = random.Random(13)
    names = ["a", "b", "c", "notd", "evening", "abcdefgh", "maybe"]
    for _ in range(many):
        rules = [Rule(chance.choice([None] + names), chance.sample(names, chance.randrange(4)),
                      unless=chance.sample(names, chance.choice((0, 0, 1, 4)))) for _ in range(chance.randrange(9))]
        yield rules, chance.sample(names + ["free", "z"], chance.randrange(5))


class ReadRule(Refusing):
    def test_where_these_are_defined(self):
        for call in (read_rule, base_text, read_base):
            self.assertEqual(call.__module__, texts.__name__)

    def test_texts(self):
        for text, rule in GOOD:
            told = read_rule(text)
            self.assertIsInstance(told, Rule)
            self.assertEqual(told.told(), rule.told(), repr(text))
            self.assertEqual(read_rule(text=text), rule)

    def test_texts_that_rules_have(self):
        for rule in some_rules():
            self.assertEqual(read_rule(rule.text()).told(), rule.told())
            self.assertEqual(read_rule(str(rule)).text(), rule.text())

    def test_blanks_anywhere_and_names_mixed(self):
        chance = random.Random(12)
        for rule in some_rules():
            for _ in range(5):
                text = spaced(chance, rule)
                self.assertEqual(read_rule(text).told(), rule.told(), repr(text))

    def test_other_texts(self):
        for text in BAD:
            self.assertEqual(self.refused(NoText, read_rule, text).row, 1, repr(text))
            self.assertEqual(self.refused(NoText, read_rule, text=text).row, 1)

    def test_a_wrong_sign_anywhere(self):
        for text in ("a <- b, not d", "never b, not d"):
            for at in range(len(text) + 1):
                for sign in "A1\t\n.;-<>=!\"'()[]_":
                    wrong = text[:at] + sign + text[at:]
                    self.assertEqual(self.refused(NoText, read_rule, wrong).row, 1, repr(wrong))

    def test_what_is_no_text(self):
        for thing in NEITHER + LISTS:
            if not isinstance(thing, str):
                self.assertEqual(self.refused(NoText, read_rule, thing).row, 1)
        for thing in ([], ["a <- b"], ("a",), Rule("a"), {"a": "b"}):
            self.assertEqual(self.refused(NoText, read_rule, thing).row, 1)

    def test_long_texts(self):
        self.assertEqual(read_rule(" " * 5990 + "a"), Rule("a"))
        self.assertEqual(read_rule("a" + " " * 2990 + "<-" + " " * 2990 + "b"), Rule("a", ["b"]))
        self.refused(NoText, read_rule, "a" * 6000)
        self.refused(NoText, read_rule, "a <- " + "b, " * 1990 + "b")


class BaseText(Refusing):
    def test_rows(self):
        rules = [Rule("c", ["b", "a"], unless=["d"]), Rule(None, ["c"]), Rule("a"), Rule(None), Rule("a")]
        told = "may b\nmay z\nc <- b, a, not d\nnever c\na\nnever\na\n"
        for make in (list, tuple):
            self.assertEqual(base_text(make(rules), make(["z", "b"])), told)
        self.assertEqual(base_text(rules=rules, may=["b", "z"]), told)
        self.assertEqual(base_text(rules), told.replace("may b\nmay z\n", ""))
        self.assertEqual(base_text([], ["b", "a"]), "may a\nmay b\n")
        self.assertEqual(base_text([]), "")
        self.assertEqual(base_text((), ()), "")

    def test_what_is_handed_in_stays(self):
        rules, may = [Rule("b"), Rule("a")], ["z", "y"]
        base_text(rules, may)
        self.assertEqual((rules, may), ([Rule("b"), Rule("a")], ["z", "y"]))

    def test_as_much_as_there_may_be(self):
        self.assertEqual(base_text([Rule("a")] * 40), "a\n" * 40)
        self.assertEqual(base_text(base_with(24)).count("\n"), 4)
        self.assertEqual(base_text([], list(LETTERS[:24])).count("may"), 24)
        self.assertEqual(base_text(base_with(24), list(LETTERS[:24])).count("\n"), 28)
        self.assertEqual(base_text(base_with(20), list(LETTERS[10:24])).count("\n"), 18)
        fours = [Rule(None, unless=list(LETTERS[at:at + 4])) for at in range(0, 24, 4)]
        self.assertEqual(base_text(fours).count("not"), 24)

    def test_more_than_there_may_be(self):
        self.refused(BadRules, base_text, [Rule("a")] * 41)
        self.refused(BadRules, base_text, base_with(25))
        self.refused(BadNames, base_text, base_with(24), ["y"])
        self.refused(BadNames, base_text, [Rule("z", unless=["y"])], list(LETTERS[:23]))
        self.refused(BadNames, base_text, base_with(20), list(LETTERS[10:25]))
        self.refused(BadNames, base_text, [], list(LETTERS[:25]))

    def test_wrong_things(self):
        self.all_of_it([(base_text, {"rules": NOT_PLAIN[0], "may": ["a"]}, {"rules": "base", "may": "names"})])
        for rules in NOT_PLAIN:
            base_text(rules)
        for thing in NO_BASES:
            self.refused(BadRules, base_text, thing)
            self.refused(BadRules, base_text, thing, list(LETTERS))


class ReadBase(Refusing):
    def row(self, text):
        return self.refused(NoText, read_base, text).row

    def reads(self, text, rules, may):
        told = read_base(text)
        self.assertIsInstance(told, tuple)
        self.assertEqual(told, (rules, may), repr(text))
        self.assertEqual([type(part) for part in told], [list, list])

    def test_there_and_back(self):
        for rules, may in some_bases(300):
            text = base_text(rules, may)
            self.reads(text, rules, sorted(may))
            self.reads(text[:-1], rules, sorted(may))
            self.assertEqual(base_text(*read_base(text)), text)

    def test_any_order_of_rows(self):
        chance = random.Random(14)
        for rules, may in some_bases(200):
            rows = [f"may {name}" for name in may] + list(rules)
            chance.shuffle(rows)
            text = "".join((row if isinstance(row, str) else spaced(chance, row)) + "\n" for row in rows)
            self.reads(text, [row for row in rows if isinstance(row, Rule)], sorted(may))

    def test_by_place_and_by_name(self):
        self.assertEqual(read_base(text="may a\nb <- a"), ([Rule("b", ["a"])], ["a"]))

    def test_rows_of_blanks_and_no_rows(self):
        for text in ("", "\n", " ", "   \n", "\n\n\n", " \n  \n "):
            self.reads(text, [], [])
        self.reads("\n\na\n  \nmay b\n\n   b\n   ", [Rule("a"), Rule("b")], ["b"])

    def test_blanks_round_may(self):
        for text in ("may a", " may a", "may   a", "   may  a   \n"):
            self.reads(text, [], ["a"])
        self.reads("may notb\nmay a\nmaya", [Rule("maya")], ["a", "notb"])

    def test_new_lists_each_time(self):
        one, other = read_base("may a\nb"), read_base("may a\nb")
        one[0].append(1)
        one[1].append(1)
        self.assertEqual(other, ([Rule("b")], ["a"]))

    def test_the_first_row_that_is_none(self):
        for text in BAD:
            if text.strip(" ") and "\n" not in text and text != "may a":
                self.assertEqual(self.row(text), 1, repr(text))
                self.assertEqual(self.row(f"a\n\n{text}\nb\n"), 3, repr(text))
                self.assertEqual(self.row(f"may a\na\n  \n{text}\n,\n{text}"), 4, repr(text))

    def test_rows_of_may_that_are_none(self):
        for row in ("may", "may ", "may a b", "may a, b", "may a,", "may ,a", "may,a", "may not", "may not a",
                    "may may", "may never", "may A", "may a <- b", "may <- a", "may ninechars", "may\ta", "may a\t",
                    "may1 a", "a may", "may a1"):
            self.assertEqual(self.row(row), 1, row)
            self.assertEqual(self.row(f"b\nmay c\n\n{row}\n{row}\n"), 4, row)

    def test_a_name_twice_by_may(self):
        self.assertEqual(self.row("may a\nmay a"), 2)
        self.assertEqual(self.row("may a\n\nb\nmay c\n may   a \nmay c"), 5)
        self.reads("may a\na\na", [Rule("a"), Rule("a")], ["a"])

    def test_a_tabulator_is_no_blank(self):
        self.assertEqual(self.row("a\n\t\nb"), 2)

    def test_what_is_no_text(self):
        for thing in NEITHER + LISTS + [["a"], ("may a\n",), Rule("a"), [Rule("a")]]:
            if not isinstance(thing, str):
                self.assertEqual(self.refused(NoText, read_base, thing).row, 0)
                self.assertEqual(self.refused(NoText, read_base, text=thing).row, 0)

    def test_as_much_as_there_may_be(self):
        self.assertEqual(len(read_base("a\n" * 40)[0]), 40)
        self.assertEqual(read_base(base_text(base_with(24), list(LETTERS[:24]))), (base_with(24), list(LETTERS[:24])))
        self.assertEqual(read_base("".join(f"may {name}\n" for name in LETTERS[23::-1]))[1], list(LETTERS[:24]))

    def test_more_than_there_may_be(self):
        self.assertEqual(self.row("a\n" * 41), 0)
        self.assertEqual(self.row("".join(rule.text() + "\n" for rule in base_with(25))), 0)
        self.assertEqual(self.row(base_text(base_with(24)) + "may y"), 0)
        self.assertEqual(self.row("may y\n" + base_text(base_with(24))), 0)
        self.assertEqual(self.row("".join(f"may {name}\n" for name in LETTERS[:25])), 0)
        self.assertEqual(self.row("".join(f"may {name}\n" for name in LETTERS[:23]) + "y <- not z"), 0)

    def test_a_wrong_row_comes_ahead_of_too_much(self):
        self.assertEqual(self.row("a\n" * 41 + "not"), 42)
        self.assertEqual(self.row("".join(f"may {name}\n" for name in LETTERS[:25]) + "may a"), 26)


if __name__ == "__main__":
    unittest.main()

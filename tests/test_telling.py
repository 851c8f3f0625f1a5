"""[3], [4], [50] and [51]: rules under numbers, told and dropped, taken back and done again."""

import random
import unittest

from groundlots import telling as file
from groundlots.errors import BadRule, NoDeed, NoRule, TooMany
from groundlots.rules import Rule
from groundlots.telling import Telling
from refusing import Refusing
from things import LETTERS, NO_NUMBERS, NO_RULES, base_with

RULES = [Rule("a"), Rule("b", ["a"]), Rule(None, ["b"], unless=["c"]), Rule("c", ["a", "b"], unless=["d", "a"])]


def told_by(telling):
    """All that it tells, also behind each taking back and doing again that it can do."""
    found = [telling.rules(), telling.log()]
    for turn in ("back", "again"):
        twin = telling.twin()
        while True:
            try:
                getattr(twin, turn)()
            except NoDeed:
                break
            found.append((turn, twin.rules(), twin.log()))
    return found


def made(rules=RULES, kind=Telling):
    telling = kind()
    for rule in rules:
        telling.tell(rule)
    return telling


class Told(Refusing):
    def test_where_these_are_defined(self):
        self.assertEqual(Telling.__module__, file.__name__)
        for name in ("tell", "drop", "rules", "back", "again", "log", "twin"):
            self.assertIn(name, vars(Telling))

    def test_numbers_and_rules(self):
        telling = Telling()
        self.assertEqual((telling.rules(), telling.log()), ([], []))
        self.assertEqual([telling.tell(rule) for rule in RULES], [1, 2, 3, 4])
        self.assertEqual(telling.rules(), list(zip([1, 2, 3, 4], RULES)))
        self.assertEqual(telling.drop(2), RULES[1])
        self.assertIsInstance(telling.drop(4), Rule)
        self.assertEqual(telling.rules(), [(1, RULES[0]), (3, RULES[2])])
        self.assertEqual(telling.tell(RULES[3]), 5)
        self.assertEqual(telling.tell(rule=RULES[0]), 6)
        self.assertEqual(telling.drop(number=1), RULES[0])
        self.assertEqual(telling.rules(), [(3, RULES[2]), (5, RULES[3]), (6, RULES[0])])
        self.assertEqual(telling.log(), [("tell", rule.told()) for rule in RULES] + [
            ("drop", 2), ("drop", 4), ("tell", RULES[3].told()), ("tell", RULES[0].told()), ("drop", 1)])

    def test_kinds_of_what_is_told(self):
        telling = made()
        for told in (telling.rules(), telling.log()):
            self.assertIs(type(told), list)
            self.assertEqual({type(row) for row in told}, {tuple})
        self.assertIs(type(telling.tell(RULES[0])), int)
        self.assertIsNone(telling.back())
        self.assertIsNone(telling.again())
        self.assertIs(type(telling.twin()), Telling)

    def test_like_rules_bear_numbers_of_their_own(self):
        telling = made([Rule("a")] * 3)
        telling.drop(2)
        self.assertEqual(telling.rules(), [(1, Rule("a")), (3, Rule("a"))])

    def test_no_number_is_given_twice(self):
        telling = made()
        for number in (4, 2, 3, 1):
            telling.drop(number)
        self.assertEqual(telling.rules(), [])
        self.assertEqual(telling.tell(RULES[0]), 5)
        telling.drop(5)
        self.assertEqual(telling.tell(RULES[0]), 6)

    def test_but_where_the_deed_that_gave_it_was_taken_back(self):
        telling = made()
        telling.back()
        self.assertEqual(telling.tell(Rule("z")), 4)
        telling.drop(4)
        telling.back()
        self.assertEqual(telling.rules()[-1], (4, Rule("z")))
        self.assertEqual(telling.tell(Rule("y")), 5)
        telling.back()
        telling.back()
        self.assertEqual(telling.tell(Rule("x")), 4)
        for _ in range(4):
            telling.back()
        self.assertEqual(telling.tell(Rule("w")), 1)

    def test_new_lists_each_time(self):
        telling = made()
        before = told_by(telling)
        telling.rules().clear()
        telling.log().append("a")
        self.assertEqual(told_by(telling), before)

    def test_long_histories_against_a_list_of_all_that_stood(self):
        for seed in range(20):
            chance = random.Random(seed)
            telling = Telling()
            stood, at, twins = [((), 0, ())], 0, []
            for _ in range(60):
                rules, last, log = stood[at]
                turn = chance.choice(("tell", "tell", "drop", "back", "again", "twin"))
                if turn == "tell":
                    rule = chance.choice(RULES)
                    self.assertEqual(telling.tell(rule), last + 1)
                    stood[at + 1:] = [(rules + ((last + 1, rule),), last + 1, log + (("tell", rule.told()),))]
                    at += 1
                elif turn == "drop" and rules:
                    number, rule = chance.choice(rules)
                    self.assertEqual(telling.drop(number), rule)
                    rest = tuple(pair for pair in rules if pair[0] != number)
                    stood[at + 1:] = [(rest, last, log + (("drop", number),))]
                    at += 1
                elif turn == "back" and at:
                    telling.back()
                    at -= 1
                elif turn == "again" and at + 1 < len(stood):
                    telling.again()
                    at += 1
                elif turn == "twin":
                    # The one goes on and the other stays, by turns.
                    twins.append((telling, told_by(telling)))
                    telling = telling.twin()
                self.assertEqual((telling.rules(), telling.log()), (list(stood[at][0]), list(stood[at][2])))
            behind = [("again", list(rules), list(log)) for rules, _, log in stood[at + 1:]]
            ahead = [("back", list(rules), list(log)) for rules, _, log in stood[:at][::-1]]
            self.assertEqual(told_by(telling)[2:], ahead + behind)
            for twin, told in twins:
                self.assertEqual(told_by(twin), told)


class BackAndAgain(Refusing):
    def test_a_history_wholly_taken_back_and_done_again(self):
        telling = made()
        telling.drop(2)
        telling.tell(Rule("z"))
        whole, log = telling.rules(), telling.log()
        for many in range(5, -1, -1):
            telling.back()
            self.assertEqual(telling.log(), log[:many])
        self.assertEqual((telling.rules(), telling.log()), ([], []))
        self.refused(NoDeed, telling.back)
        for many in range(1, 7):
            telling.again()
            self.assertEqual(telling.log(), log[:many])
        self.assertEqual((telling.rules(), telling.log()), (whole, log))
        self.refused(NoDeed, telling.again)

    def test_nothing_can_be_done_again_behind_another_deed(self):
        for deed in (lambda one: one.tell(Rule("z")), lambda one: one.drop(1)):
            telling = made()
            telling.back()
            telling.back()
            deed(telling)
            self.refused(NoDeed, telling.again)
            telling.back()
            telling.again()
            self.refused(NoDeed, telling.again)

    def test_at_first(self):
        self.refused(NoDeed, Telling().back)
        self.refused(NoDeed, Telling().again)
        self.refused(NoDeed, made().again)

    def test_what_tells_changes_nothing(self):
        telling = made()
        telling.back()
        telling.rules()
        telling.log()
        telling.twin().tell(Rule("z"))
        telling.again()
        self.assertEqual(telling.rules(), made().rules())


class Twins(Refusing):
    def test_a_twin_tells_all_alike(self):
        telling = made()
        telling.back()
        telling.drop(1)
        telling.back()
        self.assertEqual(told_by(telling.twin()), told_by(telling))
        self.assertEqual(told_by(Telling().twin()), told_by(Telling()))

    def test_what_is_done_to_the_one_changes_nothing_in_the_other(self):
        deeds = (lambda one: one.tell(Rule("z")), lambda one: one.drop(1), lambda one: one.back(),
                 lambda one: one.again())
        for deed in deeds:
            for at in (0, 1):
                telling = made()
                telling.back()
                pair = [telling, telling.twin()]
                before = told_by(pair[1 - at])
                deed(pair[at])
                self.assertNotEqual(told_by(pair[at]), before)
                self.assertEqual(told_by(pair[1 - at]), before)

    def test_twins_give_their_own_numbers(self):
        one = made()
        other = one.twin()
        self.assertEqual((one.tell(Rule("x")), other.tell(Rule("y")), one.tell(Rule("z"))), (5, 5, 6))
        self.assertEqual((one.rules()[4:], other.rules()[4:]), ([(5, Rule("x")), (6, Rule("z"))], [(5, Rule("y"))]))


class Refused(Refusing):
    def unchanged(self, refusal, telling, name, *things):
        before = told_by(telling)
        told = self.refused(refusal, getattr(telling, name), *things)
        self.assertEqual(told_by(telling), before)
        return told

    def test_what_is_no_rule(self):
        telling = made()
        telling.back()
        for thing in NO_RULES:
            self.unchanged(BadRule, telling, "tell", thing)
            self.refused(BadRule, telling.tell, rule=thing)

    def test_what_is_no_number_of_a_rule(self):
        telling = made()
        telling.drop(3)
        telling.tell(Rule("z"))
        telling.back()
        for thing in NO_NUMBERS + [3, 5, 6]:
            if thing != 4 or isinstance(thing, bool):
                self.assertEqual(self.unchanged(NoRule, telling, "drop", thing).number, thing)
                self.assertIs(self.refused(NoRule, telling.drop, number=thing).number.__class__, thing.__class__)
        self.assertIs(self.unchanged(NoRule, made(), "drop", True).number, True)
        self.refused(NoRule, Telling().drop, 1)

    def test_forty_rules(self):
        telling = made([Rule("a", unless=["b"])] * 40)
        telling.back()
        telling.again()
        self.unchanged(TooMany, telling, "tell", Rule("a"))
        self.unchanged(BadRule, telling, "tell", None)
        telling.drop(7)
        self.assertEqual(telling.tell(Rule("a")), 41)
        self.unchanged(TooMany, telling, "tell", Rule("a"))
        telling.back()
        self.unchanged(TooMany, made([Rule("a")] * 40), "tell", Rule("b"))

    def test_24_names(self):
        telling = made(base_with(24))
        for rule in (Rule("y"), Rule(None, ["y"]), Rule("a", unless=["y"]), Rule("a", ["b", "y"])):
            self.unchanged(TooMany, telling, "tell", rule)
        telling.tell(Rule("x", ["a"], unless=["b"]))
        telling.drop(4)
        telling.tell(Rule("y", ["z"]))
        few = made(base_with(22))
        self.unchanged(TooMany, few, "tell", Rule("x", ["y", "z"]))
        few.tell(Rule("x", ["x"], unless=["y"]))
        self.unchanged(TooMany, few, "tell", Rule("z"))

    def test_names_that_stand_no_more_make_room(self):
        telling = made([Rule(letter) for letter in LETTERS[:24]])
        for letter in LETTERS[24:]:
            self.unchanged(TooMany, telling, "tell", Rule(letter))
        telling.drop(24)
        telling.tell(Rule("y"))
        self.unchanged(TooMany, telling, "tell", Rule("z"))

    def test_what_is_refused_leaves_what_can_be_done_again(self):
        telling = made()
        telling.back()
        self.refused(BadRule, telling.tell, 1)
        self.refused(NoRule, telling.drop, 4)
        telling.again()
        self.assertEqual(telling.rules()[-1], (4, RULES[3]))
        self.refused(NoDeed, telling.again)
        for _ in RULES:
            telling.back()
        self.refused(NoDeed, telling.back)
        telling.again()
        self.assertEqual(telling.rules(), [(1, RULES[0])])


if __name__ == "__main__":
    unittest.main()

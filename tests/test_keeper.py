"""[2] (e), [3], [4], [50], [51] and [100] to [102]: a keeper of one standing under deeds."""

import itertools
import random
import unittest

from groundlots import keeper as file
from groundlots.errors import BadName, BadRule, NoDeed, NoRule, NotHeld, NotThere, TooMany, Twice
from groundlots.keeper import Keeper
from groundlots.rules import Rule
from groundlots.standings import standings
from groundlots.telling import Telling
from groundlots.texts import read_rule
from refusing import WRONG, Refusing
from things import LETTERS, LISTS, NEITHER, NO_NUMBERS, NO_RULES, base_with
from walks import in_lots, is_least_paper, least_of, slow_reduct, slow_standings

METHODS = ("tell drop rules back again log twin ground unground grounds stands came went culprits why").split()
POOL = [read_rule(text) for text in (
    "a <- not b", "b <- not a", "c <- a, not d", "d <- not c", "e <- c", "e <- b, d", "never e, not f", "never a, d",
    "a", "f <- not f", "c <- b, not a", "never not c", "d <- e", "never", "b <- f", "c <- d, not e", "never b")]


def told_now(keeper):
    """All that it tells but of the last change, and of what can be taken back and done again."""
    whys = []
    for name in "abcdefyz":
        try:
            whys.append((name, keeper.why(name)))
        except NotHeld:
            whys.append(name)
    return {"rules": keeper.rules(), "grounds": keeper.grounds(), "log": keeper.log(), "stands": keeper.stands(),
            "culprits": keeper.culprits(), "why": whys}


def told_by(keeper):
    """All that it tells, also behind each taking back and doing again that it can do."""
    found = [told_now(keeper), keeper.came(), keeper.went()]
    for turn in ("back", "again"):
        twin = keeper.twin()
        while True:
            try:
                getattr(twin, turn)()
            except NoDeed:
                break
            found.append((turn, twin.rules(), twin.grounds(), twin.log(), twin.stands(), twin.came(), twin.went()))
    return found


def made(*texts, soft=(), grounds=()):
    """A keeper that was told grounds and then rules by their texts, those of soft numbers as soft."""
    keeper = Keeper()
    for name in grounds:
        keeper.ground(name)
    for number, text in enumerate(texts, start=1):
        keeper.tell(read_rule(text), soft=number in soft)
    return keeper


def apart(one, other):
    """In how many names two sets differ."""
    return len(set(one) ^ set(other))


class Model:
    """What a keeper should tell, from a list of all that stood."""

    def __init__(self):
        self.stood = [{"rules": (), "last": 0, "grounds": (), "soft": (), "log": (), "stands": (), "stood": ()}]
        self.at = 0
        self.ahead = None

    def now(self):
        return self.stood[self.at]

    def do(self, row, **more):
        self.ahead = self.now()
        new = {**self.ahead, **more, "log": self.ahead["log"] + (row,)}
        there = slow_standings([rule for _, rule in new["rules"]], new["grounds"])
        near = min([apart(one, new["stood"]) for one in there], default=None)
        new["stands"] = next((one for one in there if apart(one, new["stood"]) == near), None)
        new["stood"] = new["stood"] if new["stands"] is None else new["stands"]
        self.stood[self.at + 1:] = [new]
        self.at += 1

    def turn(self, by):
        self.ahead = self.now()
        self.at += by

    def moved(self):
        there = self.now()["stands"]
        if self.ahead is None or there is None:
            return [], []
        return sorted(set(there) - set(self.ahead["stood"])), sorted(set(self.ahead["stood"]) - set(there))

    def culprits(self):
        now = self.now()
        soft = [number for number, _ in now["rules"] if number in now["soft"]]
        return least_of([one for many in range(len(soft) + 1) for one in itertools.combinations(soft, many)
                         if slow_standings([rule for number, rule in now["rules"] if number not in one],
                                           now["grounds"])])


def do_one(chance, keeper, model):
    """Does one thing by chance to both; gives what it was, and what the keeper gave and should have given."""
    now = model.now()
    deed = chance.choice(("tell",) * 4 + ("drop", "drop", "ground", "unground", "back", "back", "again", "again"))
    free = [name for name in "abf" if name not in now["grounds"]]
    standing = [number for number, _ in now["rules"] if number in now["soft"]]
    if deed == "tell" and len(now["rules"]) < 9:
        rule, soft = chance.choice(POOL), chance.random() < 0.6 and len(standing) < 4
        number = now["last"] + 1
        model.do(("tell", rule.told(), soft), rules=now["rules"] + ((number, rule),), last=number,
                 soft=now["soft"] + (number,) * soft)
        given = keeper.tell(rule, soft=soft) if soft or chance.random() < 0.5 else keeper.tell(rule)
        return deed, given, number
    if deed == "drop" and now["rules"]:
        number, rule = chance.choice(now["rules"])
        model.do(("drop", number), rules=tuple(pair for pair in now["rules"] if pair[0] != number))
        return deed, keeper.drop(number), rule
    if deed == "ground" and free:
        name = chance.choice(free)
        model.do(("ground", name), grounds=now["grounds"] + (name,))
        return deed, keeper.ground(name), None
    if deed == "unground" and now["grounds"]:
        name = chance.choice(now["grounds"])
        model.do(("unground", name), grounds=tuple(one for one in now["grounds"] if one != name))
        return deed, keeper.unground(name), None
    if deed == "back" and model.at:
        model.turn(-1)
        return deed, keeper.back(), None
    if deed == "again" and model.at + 1 < len(model.stood):
        model.turn(1)
        return deed, keeper.again(), None
    return None, None, None


class Ordinary(Refusing):
    def test_where_these_are_defined(self):
        self.assertEqual(Keeper.__module__, file.__name__)
        self.assertTrue(issubclass(Keeper, Telling))
        for name in METHODS:
            self.assertIn(name, vars(Keeper))

    def test_a_short_history(self):
        keeper = Keeper()
        self.assertEqual((keeper.stands(), keeper.came(), keeper.went(), keeper.grounds()), ([], [], [], []))
        self.assertEqual(keeper.tell(read_rule("walk <- not ride")), 1)
        self.assertEqual((keeper.stands(), keeper.came(), keeper.went()), (["walk"], ["walk"], []))
        self.assertEqual(keeper.tell(read_rule("ride <- not walk, ticket"), soft=True), 2)
        self.assertIsNone(keeper.ground("ticket"))
        self.assertEqual((keeper.stands(), keeper.came(), keeper.went()), (["ticket", "walk"], ["ticket"], []))
        self.assertEqual(keeper.tell(read_rule("never walk, rain"), soft=True), 3)
        self.assertIsNone(keeper.ground("rain"))
        self.assertEqual(keeper.stands(), ["rain", "ride", "ticket"])
        self.assertEqual((keeper.came(), keeper.went()), (["rain", "ride"], ["walk"]))
        self.assertEqual((keeper.why("ride"), keeper.why("rain")), ([2], []))
        self.assertEqual(keeper.grounds(), ["rain", "ticket"])
        self.assertEqual(keeper.drop(2), read_rule("ride <- not walk, ticket"))
        self.assertEqual((keeper.stands(), keeper.came(), keeper.went(), keeper.culprits()), (None, [], [], [(3,)]))
        self.assertIsNone(keeper.unground("rain"))
        self.assertEqual(keeper.stands(), ["ticket", "walk"])
        self.assertEqual((keeper.came(), keeper.went()), (["walk"], ["rain", "ride"]))
        self.assertEqual(keeper.log(), [
            ("tell", ("rule", "walk", (), ("ride",)), False), ("tell", ("rule", "ride", ("ticket",), ("walk",)), True),
            ("ground", "ticket"), ("tell", ("rule", None, ("walk", "rain"), ()), True), ("ground", "rain"), ("drop", 2),
            ("unground", "rain")])
        self.assertIsNone(keeper.back())
        self.assertIsNone(keeper.stands())
        self.assertIsNone(keeper.back())
        self.assertEqual(keeper.stands(), ["rain", "ride", "ticket"])
        self.assertIsNone(keeper.again())
        self.assertEqual(keeper.rules(), [(1, read_rule("walk <- not ride")), (3, read_rule("never walk, rain"))])

    def test_by_name(self):
        keeper = Keeper()
        self.assertEqual(keeper.tell(soft=True, rule=Rule("b", ["a"])), 1)
        keeper.ground(name="a")
        self.assertEqual(keeper.why(name="b"), [1])
        keeper.unground(name="a")
        self.assertEqual(keeper.drop(number=1), Rule("b", ["a"]))
        with self.assertRaises(TypeError):
            keeper.tell(Rule("a"), True)

    def test_kinds_of_what_is_told(self):
        keeper = made("a <- not b", "b <- a", "c <- d", soft=[3], grounds="d")
        keeper.tell(read_rule("never b"))
        keeper.back()
        for told in (keeper.rules(), keeper.log(), keeper.grounds(), keeper.came(), keeper.went(), keeper.culprits()):
            self.assertIs(type(told), list)
        keeper = made("a <- not b", "c <- a", soft=[2])
        self.assertEqual([type(one) for one in (keeper.stands(), keeper.why("c"))], [list, list])
        self.assertEqual([type(one) for one in keeper.culprits() + keeper.log()], [tuple] * 3)
        self.assertIs(keeper.log()[0][2], False)
        self.assertIs(type(keeper.twin()), Keeper)

    def test_what_it_tells_is_the_askers_own(self):
        keeper = made("a <- not b", "c <- a", "never not d", soft=[3])
        keeper.back()
        before = told_by(keeper)
        for told in (keeper.rules(), keeper.log(), keeper.grounds(), keeper.stands(), keeper.came(), keeper.went(),
                     keeper.culprits(), keeper.why("c")):
            told.append("x")
        self.assertEqual(told_by(keeper), before)


class Histories(Refusing):
    def test_long_histories_against_all_standings(self):
        found = {}
        for seed in range(60):
            chance = random.Random(seed)
            keeper, model = Keeper(), Model()
            for _ in range(40):
                deed, given, right = do_one(chance, keeper, model)
                now = model.now()
                self.assertEqual(given, right)
                self.assertEqual((keeper.rules(), keeper.log()), (list(now["rules"]), list(now["log"])))
                self.assertEqual(keeper.grounds(), sorted(now["grounds"]))
                self.assertEqual(keeper.stands(), None if now["stands"] is None else list(now["stands"]))
                self.assertEqual((keeper.came(), keeper.went()), model.moved())
                self.assertEqual(keeper.culprits(), model.culprits())
                key = (deed, now["stands"] is None)
                found[key] = found.get(key, 0) + 1
                found["culprits"] = found.get("culprits", 0) + (len(keeper.culprits()) > 1)
                found["none helps"] = found.get("none helps", 0) + (keeper.culprits() == [])
        self.assertGreater(min(found.values()), 15)
        self.assertEqual(len(found), 16)

    def test_twins_by_turns(self):
        for seed in range(20):
            chance = random.Random(seed)
            pairs = [(Keeper(), Model())]
            for _ in range(30):
                keeper, model = chance.choice(pairs)
                others = [(one, told_by(one)) for one, _ in pairs if one is not keeper]
                do_one(chance, keeper, model)
                for one, told in others:
                    self.assertEqual(told_by(one), told)
                if chance.random() < 0.1 and len(pairs) < 4:
                    copied = Model()
                    copied.stood, copied.at, copied.ahead = list(model.stood), model.at, model.ahead
                    twin = keeper.twin()
                    self.assertEqual(told_by(twin), told_by(keeper))
                    pairs.append((twin, copied))
            for keeper, model in pairs:
                now = model.now()
                self.assertEqual(keeper.stands(), None if now["stands"] is None else list(now["stands"]))
                self.assertEqual((keeper.came(), keeper.went(), keeper.log()), (*model.moved(), list(now["log"])))

    def test_papers_by_numbers(self):
        found = 0
        for seed in range(30):
            chance = random.Random(seed)
            keeper, model = Keeper(), Model()
            for _ in range(40):
                do_one(chance, keeper, model)
                there, grounds = keeper.stands(), keeper.grounds()
                left = [number for number, rule in keeper.rules() if not set(rule.unless) & set(there or [])]
                plain = slow_reduct([rule for _, rule in keeper.rules()], there or [])
                for name in "abcdefz":
                    if there is None or name not in there:
                        self.refused(NotHeld, keeper.why, name)
                        continue
                    paper = keeper.why(name)
                    self.assertTrue(is_least_paper(plain, grounds, name, [left.index(number) for number in paper]))
                    self.assertEqual([type(number) for number in paper], [int] * len(paper))
                    found += len(paper) > 1
        self.assertGreater(found, 20)

    def test_a_history_wholly_taken_back_and_done_again(self):
        for seed in range(20):
            chance = random.Random(seed)
            keeper, model = Keeper(), Model()
            for _ in range(30):
                do_one(chance, keeper, model)
            stood = [(one["log"], one["stands"]) for one in model.stood]
            while model.at:
                keeper.back()
                model.turn(-1)
                self.assertEqual((tuple(keeper.log()), keeper.stands()), (
                    stood[model.at][0], None if stood[model.at][1] is None else list(stood[model.at][1])))
            self.refused(NoDeed, keeper.back)
            for _ in stood[1:]:
                keeper.again()
                model.turn(1)
                self.assertEqual((keeper.came(), keeper.went()), model.moved())
            self.refused(NoDeed, keeper.again)


class WhereItStands(Refusing):
    def test_at_first_it_stands_at_no_names(self):
        self.assertEqual(told_by(Keeper()), [
            {"rules": [], "grounds": [], "log": [], "stands": [], "culprits": [()], "why": list("abcdefyz")}, [], []])

    def test_of_several_nearest_the_first(self):
        for texts in (("b <- not a", "a <- not b"), ("a <- not b", "b <- not a")):
            keeper = made("never", *texts)
            keeper.drop(1)
            self.assertEqual((keeper.stands(), keeper.came(), keeper.went()), (["a"], ["a"], []))
        keeper = made("a", "b", "never", "c <- not b", "b <- not c", "d <- b", "e <- b")
        keeper.drop(2)
        keeper.drop(3)
        # It stood at (a, b), from which (a, b, d, e) is as near, but longer.
        self.assertEqual(standings([rule for _, rule in keeper.rules()], []), [("a", "c"), ("a", "b", "d", "e")])
        self.assertEqual((keeper.stands(), keeper.came(), keeper.went()), (["a", "c"], ["c"], ["b"]))

    def test_the_nearest_though_another_one_is_shorter(self):
        keeper = made("never", "d <- not e", "e <- not d", "a <- e", "b <- e", "f <- e")
        keeper.drop(1)
        self.assertEqual(keeper.stands(), ["d"])
        keeper = made(grounds="abc")
        keeper.tell(read_rule("never"))
        for name in "abc":
            keeper.unground(name)
        for text in ("d <- not e", "e <- not d", "a <- e", "b <- e", "f <- e"):
            keeper.tell(read_rule(text))
        keeper.drop(1)
        self.assertEqual((keeper.stands(), keeper.came(), keeper.went()), (["a", "b", "e", "f"], ["e", "f"], ["c"]))

    def test_nearest_ahead_of_first(self):
        keeper = made("b", "c")
        keeper.tell(read_rule("a <- not b"))
        keeper.drop(1)
        keeper.tell(read_rule("b <- not a"))
        # It stood at (a, c), and (b, c) is a standing as well.
        self.assertEqual(standings([rule for _, rule in keeper.rules()], []), [("a", "c"), ("b", "c")])
        self.assertEqual(keeper.stands(), ["a", "c"])
        keeper.ground("b")
        self.assertEqual((keeper.stands(), keeper.came(), keeper.went()), (["b", "c"], ["b"], ["a"]))
        keeper.unground("b")
        self.assertEqual((keeper.stands(), keeper.came(), keeper.went()), (["b", "c"], [], []))

    def test_nowhere_and_what_is_remembered(self):
        keeper = made("b <- not a", "a <- not b")
        self.assertEqual(keeper.stands(), ["b"])
        keeper.tell(read_rule("never"))
        self.assertEqual((keeper.stands(), keeper.came(), keeper.went()), (None, [], []))
        self.refused(NotHeld, keeper.why, "b")
        keeper.tell(read_rule("c"))
        self.assertIsNone(keeper.stands())
        keeper.drop(3)
        # Of (a, c) and (b, c) it goes to the one that is nearer to (b).
        self.assertEqual((keeper.stands(), keeper.came(), keeper.went()), (["b", "c"], ["c"], []))
        keeper.back()
        self.assertEqual((keeper.stands(), keeper.came(), keeper.went()), (None, [], []))
        keeper.back()
        keeper.back()
        self.assertEqual((keeper.stands(), keeper.came(), keeper.went()), (["b"], [], []))
        for right in (None, None, ["b", "c"]):
            keeper.again()
            self.assertEqual(keeper.stands(), right)
        self.assertEqual((keeper.came(), keeper.went()), (["c"], []))

    def test_nowhere_where_it_never_stood(self):
        keeper = made("never not a")
        self.assertIsNone(keeper.stands())
        keeper.tell(read_rule("a <- not b"))
        keeper.tell(read_rule("b <- not a"))
        self.assertEqual((keeper.stands(), keeper.came(), keeper.went()), (["a"], [], []))

    def test_came_and_went_behind_back_and_again(self):
        keeper = made("a", "b")
        keeper.drop(1)
        self.assertEqual((keeper.stands(), keeper.came(), keeper.went()), (["b"], [], ["a"]))
        keeper.back()
        self.assertEqual((keeper.stands(), keeper.came(), keeper.went()), (["a", "b"], ["a"], []))
        keeper.back()
        self.assertEqual((keeper.stands(), keeper.came(), keeper.went()), (["a"], [], ["b"]))
        keeper.again()
        self.assertEqual((keeper.came(), keeper.went()), (["b"], []))
        twin = keeper.twin()
        self.assertEqual((twin.came(), twin.went()), (["b"], []))

    def test_behind_back_it_remembers_as_it_did_then(self):
        keeper = made("b <- not a", "a <- not b")
        keeper.drop(1)
        self.assertEqual(keeper.stands(), ["a"])
        keeper.back()
        self.assertEqual(keeper.stands(), ["b"])
        keeper.tell(read_rule("c"))
        self.assertEqual(keeper.stands(), ["b", "c"])
        keeper.back()
        keeper.tell(read_rule("never b"))
        self.assertEqual(keeper.stands(), ["a"])
        keeper.back()
        keeper.tell(read_rule("c"))
        self.assertEqual(keeper.stands(), ["b", "c"])


class Culprits(Refusing):
    def test_where_there_is_one_and_where_none_helps(self):
        self.assertEqual(made("a", soft=[1]).culprits(), [()])
        self.assertEqual(made("never", "a", soft=[2]).culprits(), [])
        self.assertEqual(made("never", "a", soft=[1]).culprits(), [(1,)])

    def test_least_sets(self):
        keeper = made("a", "b", "never a, b", "never a", soft=[1, 2, 4])
        self.assertEqual(keeper.culprits(), [(1,), (2, 4)])
        keeper = made("never", "never", "never", soft=[1, 2, 3])
        self.assertEqual(keeper.culprits(), [(1, 2, 3)])

    def test_a_set_may_help_where_a_greater_one_does_not(self):
        # Without 1 and 2 there is none.
        keeper = made("never a", "a <- not b", "b <- not c", "never not b, not a", "c", soft=[1, 2, 3])
        self.assertEqual(keeper.culprits(), [(1,)])
        self.assertEqual(made("never a, b", "a", "b", "never not a, not b", soft=[2, 3]).culprits(), [(2,), (3,)])

    def test_dropped_rules_are_soft_no_more(self):
        keeper = made("never a", "a", "never", soft=[1, 2, 3])
        self.assertEqual(keeper.culprits(), [(1, 3), (2, 3)])
        keeper.drop(3)
        self.assertEqual(keeper.culprits(), [(1,), (2,)])
        keeper.drop(1)
        self.assertEqual(keeper.culprits(), [()])
        keeper.tell(Rule(None, ["a"]))
        self.assertEqual(keeper.culprits(), [(2,)])
        keeper.back()
        keeper.tell(Rule(None, ["a"]), soft=True)
        self.assertEqual(keeper.culprits(), [(2,), (4,)])
        for _ in range(3):
            keeper.back()
        self.assertEqual(keeper.culprits(), [(1, 3), (2, 3)])

    def test_a_number_that_is_given_anew_is_soft_only_where_it_is_told_so(self):
        keeper = made("never", soft=[1])
        keeper.back()
        keeper.tell(Rule(None))
        self.assertEqual((keeper.culprits(), keeper.rules()), ([], [(1, Rule(None))]))

    def test_grounds_count(self):
        keeper = made("never a, b", grounds="ab", soft=[1])
        self.assertEqual((keeper.stands(), keeper.culprits()), (None, [(1,)]))


class Bounds(Refusing):
    def unchanged(self, refusal, keeper, method, /, *things, **more):
        before = told_by(keeper)
        told = self.refused(refusal, getattr(keeper, method), *things, **more)
        self.assertEqual(told_by(keeper), before)
        return told

    def test_6_and_7_names_behind_not(self):
        keeper = made("x <- not a, not b, not c, not d", "never not e, not a", "y <- z, not f", grounds="e")
        for rule in ("x <- not g", "never y, not g", "never not a, not g", "g <- not a, not x"):
            self.unchanged(TooMany, keeper, "tell", read_rule(rule))
            self.unchanged(TooMany, keeper, "tell", read_rule(rule), soft=True)
        keeper.tell(read_rule("g <- not a, not f"))
        keeper.ground("h")
        self.assertEqual(keeper.stands(), ["e", "g", "h", "x"])
        keeper.drop(1)
        keeper.tell(read_rule("x <- not g"))
        self.unchanged(TooMany, keeper, "tell", read_rule("b <- not b, not c, not d"))
        self.assertEqual(keeper.tell(read_rule("b <- not c, not d")), 6)

    def test_4_and_5_soft_rules(self):
        keeper = made(*["a"] * 6, soft=[1, 3, 4, 6])
        self.unchanged(TooMany, keeper, "tell", Rule("a"), soft=True)
        self.assertEqual(keeper.tell(Rule("a"), soft=False), 7)
        keeper.drop(2)
        self.unchanged(TooMany, keeper, "tell", Rule("a"), soft=True)
        keeper.drop(3)
        self.assertEqual(keeper.tell(Rule("a"), soft=True), 8)
        self.unchanged(TooMany, keeper, "tell", Rule("a"), soft=True)
        keeper.back()
        self.assertEqual(keeper.tell(Rule("b"), soft=True), 8)
        keeper.back()
        keeper.back()
        self.unchanged(TooMany, keeper, "tell", Rule("a"), soft=True)

    def test_40_and_41_rules(self):
        keeper = made(*["a <- not b"] * 40)
        for soft in (False, True):
            self.unchanged(TooMany, keeper, "tell", Rule("a"), soft=soft)
        keeper.drop(1)
        self.assertEqual(keeper.tell(Rule("a")), 41)

    def test_24_and_25_names_with_grounds_counted(self):
        keeper = Keeper()
        for rule in base_with(23):
            keeper.tell(rule)
        keeper.ground("x")
        self.unchanged(TooMany, keeper, "tell", Rule("y"))
        self.unchanged(TooMany, keeper, "ground", "y")
        keeper.ground("a")
        keeper.unground("x")
        keeper.ground("y")
        self.unchanged(TooMany, keeper, "tell", Rule("x"))
        self.unchanged(TooMany, keeper, "ground", "x")
        keeper.tell(Rule("y"))

    def test_more_than_ten_grounds(self):
        keeper = Keeper()
        for letter in LETTERS[:24][::-1]:
            keeper.ground(letter)
        self.assertEqual((keeper.grounds(), keeper.stands()), (list(LETTERS[:24]), list(LETTERS[:24])))
        self.unchanged(TooMany, keeper, "ground", "y")

    def test_wrong_rules(self):
        keeper = made("a <- not b", "b", soft=[1])
        keeper.back()
        for thing in NO_RULES:
            self.unchanged(BadRule, keeper, "tell", thing)
            self.unchanged(BadRule, keeper, "tell", rule=thing, soft=True)
        full = made(*["a"] * 40, soft=[1, 2, 3, 4])
        self.unchanged(BadRule, full, "tell", None, soft=True)

    def test_wrong_numbers(self):
        keeper = made("a <- not b", "b", "c")
        for thing in NO_NUMBERS:
            told = self.unchanged(NoRule, keeper, "drop", thing)
            self.assertIs(type(told.number), type(thing))
            self.assertEqual(told.number, thing)

    def test_wrong_names(self):
        keeper = made("a <- not b", "b <- c", grounds="cd")
        keeper.back()
        for name in ("ground", "unground", "why"):
            for thing, refusal in WRONG["name"]:
                self.unchanged(refusal, keeper, name, thing)
                self.unchanged(refusal, keeper, name, name=thing)
        self.assertEqual({refusal for _, refusal in WRONG["name"]}, {BadName})
        self.assertIn(None, NEITHER + LISTS)

    def test_twice_and_not_there(self):
        keeper = made("a <- not b", grounds="cd")
        for name in "cd":
            self.assertEqual(self.unchanged(Twice, keeper, "ground", name).name, name)
        for name in "abxyz":
            self.assertEqual(self.unchanged(NotThere, keeper, "unground", name).name, name)
        full = Keeper()
        for letter in LETTERS[:24]:
            full.ground(letter)
        self.assertEqual(self.unchanged(Twice, full, "ground", "a").name, "a")

    def test_names_at_which_it_does_not_stand(self):
        keeper = made("a <- not b", "b <- c", "never d", grounds="e")
        for name in "bcdz":
            self.unchanged(NotHeld, keeper, "why", name)
        keeper.tell(Rule(None))
        for name in "ae":
            self.unchanged(NotHeld, keeper, "why", name)

    def test_no_deed(self):
        keeper = Keeper()
        self.unchanged(NoDeed, keeper, "back")
        self.unchanged(NoDeed, keeper, "again")
        keeper = made("a")
        self.unchanged(NoDeed, keeper, "again")
        keeper.back()
        self.unchanged(NoDeed, keeper, "back")

    def test_what_is_refused_leaves_what_can_be_done_again(self):
        keeper = made("a", "b")
        keeper.back()
        self.refused(BadRule, keeper.tell, "a")
        self.refused(BadName, keeper.ground, "A")
        self.refused(NotThere, keeper.unground, "a")
        self.refused(NoRule, keeper.drop, 2)
        keeper.again()
        self.assertEqual(keeper.stands(), ["a", "b"])

    def test_nothing_can_be_done_again_behind_another_deed(self):
        for deed in (lambda one: one.tell(Rule("z")), lambda one: one.drop(1), lambda one: one.ground("z"),
                     lambda one: one.unground("c")):
            keeper = made("a", "b", grounds="c")
            keeper.back()
            deed(keeper)
            self.refused(NoDeed, keeper.again)
            keeper.back()
            keeper.again()
            self.refused(NoDeed, keeper.again)

    def test_why_by_a_ground_that_a_rule_holds_as_well(self):
        keeper = made("a", "b <- a", "never not b", grounds="a")
        self.assertEqual((keeper.why("a"), keeper.why("b")), ([], [2]))

    def test_sets_of_numbers(self):
        keeper = made(*["a"] * 12, *["never a, b"] * 3)
        keeper.tell(Rule("b"), soft=True)
        keeper.drop(3)
        self.assertEqual(keeper.culprits(), [(16,)])
        self.assertEqual(in_lots(keeper.culprits()), [(16,)])


if __name__ == "__main__":
    unittest.main()

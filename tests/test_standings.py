"""[2] (e), [13], [90] to [93]: reducts, standings, what is sure of them, and layers of rules."""

import copy
import itertools
import random
import unittest

from groundlots import standings as file
from groundlots.errors import BadNames, BadRules, TooMany
from groundlots.held import held
from groundlots.rules import Rule
from groundlots.standings import is_standing, reduct, standings, strata, sure
from groundlots.texts import read_base
from refusing import Refusing
from things import LETTERS, NAMES, NEITHER, base_with
from walks import (all_sets, in_lots, is_slow_standing, names_of, quick_held, slow_reduct, slow_standings, some_of,
                   some_open_bases)

BASE = {"rules": [Rule("b", ["a"], unless=["c"]), Rule("c", unless=["b"]), Rule(None, ["d"], unless=["a"])],
        "grounds": ["a"]}
KINDS = {"rules": "base", "grounds": "names"}
CALLS = [
    (reduct, {"rules": BASE["rules"], "names": ["c"]}, {"rules": "base", "names": "names"}),
    (is_standing, {**BASE, "thing": ["a", "b"]}, KINDS),
    (standings, BASE, KINDS), (sure, BASE, KINDS), (strata, {"rules": BASE["rules"]}, {"rules": "base"}),
]


def read(text):
    """The rules of a text with a rule a row."""
    return read_base(text)[0]


def some_grounded(many, **more):
    """Small bases with rules of any kind, and grounds, some of which stand in no rule."""
    chance = random.Random(90)
    for rules in some_open_bases(many, **more):
        yield rules, some_of(chance, "acef") if chance.random() < 0.5 else []


def slow_sure(rules, grounds):
    """What is sure and what surely not, from the document's words."""
    ins, wide = None, None
    new = []
    while new != ins:
        ins = new
        wide = quick_held(slow_reduct(rules, ins), grounds)
        new = quick_held(slow_reduct(rules, wide), grounds)
    return (ins, [name for name in names_of(rules, grounds) if name not in wide])


def slow_strata(rules):
    """The least numbers among all that may be given to the names; None where none may."""
    names = names_of(rules)
    right = []
    for numbers in itertools.product(range(max(1, len(names))), repeat=len(names)):
        of = dict(zip(names, numbers))
        if all(rule.head is None or (all(of[rule.head] >= of[name] for name in rule.body)
                                     and all(of[rule.head] > of[name] for name in rule.unless)) for rule in rules):
            right.append(of)
    if not right:
        return None
    return {name: min(of[name] for of in right) for name in names}


class Ordinary(Refusing):
    def test_where_these_are_defined(self):
        for call in (reduct, is_standing, standings, sure, strata):
            self.assertEqual(call.__module__, file.__name__)

    def test_reduct(self):
        rules = read("a\nb <- a, not c\nc <- not b, not d\nnever b, not d\nb <- d, a\n")
        self.assertEqual(reduct(rules, []), read("a\nb <- a\nc\nnever b\nb <- d, a\n"))
        self.assertEqual(reduct(rules, ["c"]), read("a\nc\nnever b\nb <- d, a\n"))
        self.assertEqual(reduct(rules, ["d", "z"]), read("a\nb <- a\nb <- d, a\n"))
        self.assertEqual(reduct(rules, ("d", "c")), read("a\nb <- d, a\n"))
        self.assertEqual(reduct(rules, ["a"]), reduct(rules, []))

    def test_standings(self):
        rules = read("walk <- not ride\nride <- not walk, ticket\nwet <- walk, rain\nnever wet, not coat\n")
        self.assertEqual(standings(rules, []), [("walk",)])
        self.assertEqual(standings(rules, ["ticket"]), [("ride", "ticket"), ("ticket", "walk")])
        self.assertEqual(standings(rules, ["ticket", "rain"]), [("rain", "ride", "ticket")])
        self.assertEqual(standings(rules, ["rain"]), [])
        self.assertEqual(standings(rules, ["rain", "coat"]), [("coat", "rain", "walk", "wet")])
        self.assertTrue(is_standing(rules, ["ticket"], ["walk", "ticket"]))
        self.assertTrue(is_standing(rules, ["ticket"], ("ticket", "ride")))
        for thing in (["ticket"], ["walk"], ["ride", "ticket", "walk"], [], ["rain", "ride", "ticket"]):
            self.assertFalse(is_standing(rules, ["ticket"], thing))

    def test_sure(self):
        rules = read("a <- not b\nb <- not a\nc <- not d\ne <- a\ne <- b\nf <- c\nnever g\n")
        self.assertEqual(sure(rules, []), (["c", "f"], ["d", "g"]))
        self.assertEqual(standings(rules, []), [("a", "c", "e", "f"), ("b", "c", "e", "f")])
        self.assertEqual(sure(rules, ["a"]), (["a", "c", "e", "f"], ["b", "d", "g"]))
        self.assertEqual(sure(rules, ["d", "h"]), (["d", "h"], ["c", "f", "g"]))

    def test_strata(self):
        self.assertEqual(strata(read("a <- b, not c\nc <- d\nd <- not e\nnever a, not b\nf\nb <- a\nnever g, not h\n")),
                         {"a": 2, "b": 2, "c": 1, "d": 1, "e": 0, "f": 0, "g": 0, "h": 0})
        self.assertEqual(strata(read("a <- b\nb <- a\n")), {"a": 0, "b": 0})
        self.assertIsNone(strata(read("a <- not b\nb <- a\n")))
        self.assertIsNone(strata(read("a <- not a\n")))

    def test_by_place_by_name_and_tuples(self):
        rules = tuple(BASE["rules"])
        self.assertEqual(reduct(names=("c",), rules=rules), [Rule("c"), Rule(None, ["d"])])
        self.assertIs(is_standing(thing=("b", "a"), grounds=("a",), rules=rules), True)
        self.assertEqual(standings(grounds=("a",), rules=rules), [("a", "b"), ("a", "c")])
        self.assertEqual(sure(grounds=("a",), rules=rules), (["a"], ["d"]))
        self.assertEqual(strata(rules=rules[:1]), {"a": 0, "b": 1, "c": 0})
        self.assertIsNone(strata(rules=rules))

    def test_kinds_of_what_is_told(self):
        told = [reduct([], []), standings(**BASE), sure(**BASE), strata([Rule("a")])]
        self.assertEqual([type(one) for one in told], [list, list, tuple, dict])
        self.assertEqual([type(one) for one in standings(**BASE) + list(sure(**BASE))], [tuple, tuple, list, list])
        self.assertEqual([type(one) for one in strata([Rule("a")]).values()], [int])
        self.assertEqual(list(strata(read("c <- b\na <- not c\n"))), ["a", "b", "c"])

    def test_new_lists_and_dicts_each_time(self):
        for call, good, _ in CALLS:
            before = copy.deepcopy((good, call(**good)))
            told = call(**good)
            for one in told if isinstance(told, tuple) else [told]:
                if isinstance(one, (list, dict)):
                    one.clear()
            self.assertEqual((good, call(**good)), before)


class AgainstAllSets(Refusing):
    def test_reduct(self):
        chance = random.Random(9)
        for rules, _ in some_grounded(200):
            names = some_of(chance, "abcdefg")
            told = reduct(rules, names)
            self.assertEqual(told, slow_reduct(rules, names))
            self.assertEqual([rule.unless for rule in told], [()] * len(told))

    def test_is_standing(self):
        chance = random.Random(91)
        found = {True: 0, False: 0}
        for rules, grounds in some_grounded(150, seed=2):
            for one in all_sets(names_of(rules, grounds)):
                right = is_slow_standing(rules, grounds, one)
                self.assertIs(is_standing(rules, grounds, chance.sample(one, len(one))), right)
                found[right] += 1
        self.assertGreater(min(found.values()), 50)

    def test_standings(self):
        found = {0: 0, 1: 0, 2: 0}
        turns = read("a <- not b\nb <- not a\nc <- not d\nd <- not c, a\n")
        for rules, grounds in itertools.chain(
                some_grounded(300, seed=3), [(turns + rules, grounds) for rules, grounds in some_grounded(
                    300, most_rules=4, seed=4, nots=(0, 1, 1, 2))]):
            told = standings(rules, grounds)
            self.assertEqual(told, slow_standings(rules, grounds))
            found[min(2, len(told))] += 1
        self.assertGreater(min(found.values()), 50)

    def test_sure(self):
        found = {"open": 0, "settled": 0}
        for rules, grounds in some_grounded(400, seed=5):
            told = sure(rules, grounds)
            self.assertEqual(told, slow_sure(rules, grounds))
            ins, outs = told
            there = slow_standings(rules, grounds)
            for one in there:
                self.assertLessEqual(set(ins), set(one))
                self.assertFalse(set(outs) & set(one))
            settled = sorted(ins + outs) == names_of(rules, grounds)
            if settled and not [rule for rule in rules if rule.head is None]:
                self.assertEqual(there, [tuple(ins)])
            found["settled" if settled else "open"] += 1
        self.assertGreater(min(found.values()), 50)

    def test_strata(self):
        found = {"none": 0, "high": 0}
        for rules in itertools.chain(some_open_bases(300, names="abcd", most_rules=5, seed=6),
                                     some_open_bases(500, names="abcd", most_rules=4, seed=6, nevers=0, nots=(1,))):
            told = strata(rules)
            right = slow_strata(rules)
            self.assertEqual(told, right)
            if told is None:
                found["none"] += 1
                continue
            self.assertEqual(list(told), names_of(rules))
            found["high"] += max(told.values(), default=0) > 1
            for grounds in ([], ["a", "e"]):
                ins, outs = sure(rules, grounds)
                self.assertEqual(sorted(ins + outs), names_of(rules, grounds))
        self.assertGreater(min(found.values()), 20)

    def test_of_plain_rules_what_is_held_is_the_one_standing(self):
        for rules, grounds in some_grounded(100, seed=7, nots=(0,), nevers=0):
            self.assertEqual(standings(rules, grounds), [tuple(held(rules, grounds))])
            self.assertEqual(sure(rules, grounds)[0], held(rules, grounds))
            self.assertEqual(strata(rules), dict.fromkeys(names_of(rules), 0))

    def test_no_standing_lies_within_another(self):
        for rules, grounds in some_grounded(100, seed=8):
            told = standings(rules, grounds)
            self.assertEqual(in_lots(told), told)
            self.assertFalse([1 for one in told for other in told if set(one) < set(other)])


class Edges(Refusing):
    def test_no_rules(self):
        self.assertEqual((reduct([], []), reduct([], ["a"]), strata([])), ([], [], {}))
        self.assertEqual((standings([], []), standings([], ["b", "a"])), ([()], [("a", "b")]))
        self.assertEqual((sure([], []), sure([], ["b", "a"])), (([], []), (["a", "b"], [])))
        self.assertTrue(is_standing([], [], []) and is_standing([], ["a", "b"], ["b", "a"]))
        self.assertFalse(is_standing([], [], ["a"]) or is_standing([], ["a", "b"], ["b"]))

    def test_nevers_with_not(self):
        rules = read("a <- not b\nb <- not a\nnever not a\n")
        self.assertEqual((standings(rules, []), sure(rules, [])), ([("a",)], ([], [])))
        self.assertEqual(standings(read("never not a\n"), []), [])
        self.assertEqual(standings(read("never not a\n"), ["a"]), [("a",)])
        self.assertEqual(standings(read("never b, not a\n"), ["b"]), [])
        self.assertEqual(standings(read("never b, not a\n"), ["c"]), [("c",)])
        self.assertEqual(standings(read("never\n"), []), [])
        self.assertEqual(reduct(read("never b, not a\nnever not c\n"), ["a"]), [Rule(None)])
        self.assertEqual(strata(read("never b, not a\na <- not b\n")), {"a": 1, "b": 0})
        self.assertEqual(sure(read("never b, not a\n"), []), ([], ["a", "b"]))
        self.assertEqual(sure(read("never\na\n"), []), (["a"], []))

    def test_rules_that_hold_one_another(self):
        rules = read("a <- b\nb <- a\n")
        self.assertEqual((standings(rules, []), sure(rules, [])), ([()], ([], ["a", "b"])))
        self.assertFalse(is_standing(rules, [], ["a", "b"]))
        self.assertEqual((standings(rules, ["b"]), sure(rules, ["b"])), ([("a", "b")], (["a", "b"], [])))

    def test_a_rule_against_itself(self):
        rules = read("a <- not a\n")
        self.assertEqual((standings(rules, []), sure(rules, [])), ([], ([], [])))
        self.assertEqual((standings(rules, ["a"]), sure(rules, ["a"])), ([("a",)], (["a"], [])))

    def test_by_turns(self):
        odd = read("a <- not b\nb <- not c\nc <- not a\n")
        self.assertEqual((standings(odd, []), sure(odd, []), strata(odd)), ([], ([], []), None))
        even = read("a <- not b\nb <- not c\nc <- not d\nd <- not a\n")
        self.assertEqual((standings(even, []), strata(even)), ([("a", "c"), ("b", "d")], None))
        self.assertEqual(strata(read("a <- not b\nb <- c\nc <- d, e\nd <- a\n")), None)
        self.assertEqual(strata(read("a <- not b\nb <- c\nc <- d, e\nd <- b\n")),
                         {"a": 1, "b": 0, "c": 0, "d": 0, "e": 0})

    def test_layers_up_to_the_number_of_names(self):
        rules = [Rule(LETTERS[at + 1], unless=[LETTERS[at]]) for at in range(23)]
        right = {letter: at for at, letter in enumerate(LETTERS[:24])}
        self.assertEqual(strata(rules), right)
        self.assertEqual(strata(rules[::-1]), right)
        self.assertIsNone(strata(rules + [Rule("a", ["x"])]))
        self.assertIsNone(strata(rules[::-1] + [Rule("a", unless=["x"])]))
        self.assertEqual(sure(rules, []), (list(LETTERS[1:24:2]), list(LETTERS[0:24:2])))
        self.refused(TooMany, standings, rules, [])
        self.assertTrue(is_standing(rules, [], list(LETTERS[1:24:2])))

    def test_8_and_9_names_behind_not(self):
        pairs = [(LETTERS[at], LETTERS[at + 1]) for at in range(0, 8, 2)]
        rules = [Rule(one, unless=[other]) for pair in pairs for one, other in (pair, pair[::-1])]
        self.assertEqual(standings(rules, []), sorted(itertools.product(*pairs)))
        for more in (Rule(None, unless=["i"]), Rule("z", unless=["i"]), Rule("z", ["a"], unless=["b", "i"])):
            self.refused(TooMany, standings, rules + [more], [])
            self.refused(TooMany, standings, [more] + rules, ["i"])
            self.assertTrue(is_standing(rules + [more], ["i"], list("acegi")))
            self.assertEqual(sure(rules + [more], ["i"])[0], ["i"])
            reduct(rules + [more], [])
            self.assertIsNone(strata(rules + [more]))
        self.assertEqual(standings(rules + [Rule("z", ["i"])], ["i"])[0], ("a", "c", "e", "g", "i", "z"))
        again = [Rule("z", unless=list(LETTERS[at:at + 4])) for at in (0, 4, 1, 2, 3)]
        self.assertEqual(standings(again, []), [("z",)])

    def test_24_and_25_names(self):
        rules = base_with(24)
        self.assertEqual(standings(rules, ["x", "a"]), [("a", "x")])
        self.assertEqual(sure(rules, ["x"]), (["x"], list(LETTERS[:23])))
        self.assertTrue(is_standing(rules, ["x"], ["x"]))
        for grounds in (["y"], ["a", "z"]):
            for call, more in ((standings, {}), (sure, {}), (is_standing, {"thing": []})):
                self.refused(BadNames, call, rules=rules, grounds=grounds, **more)
        # These aren't grounds: so they may be other names than those of the rules.
        self.assertEqual(reduct(rules, list(LETTERS[2:26])), rules)
        self.assertEqual(reduct([Rule("a", unless=[letter]) for letter in LETTERS[:23]], ["y", "z", "c"]),
                         [Rule("a")] * 22)
        self.refused(BadNames, reduct, [], list(LETTERS[:25]))
        self.assertFalse(is_standing(rules, ["x"], list(LETTERS[2:26])))
        self.assertFalse(is_standing(rules, ["x"], list(LETTERS)))

    def test_shorter_standings_first(self):
        rules = read("a <- not b\nb <- not a\nx <- a\ny <- a\n")
        self.assertEqual(standings(rules, []), [("b",), ("a", "x", "y")])


class Wrong(Refusing):
    def test_wrong_things_in_each_place(self):
        self.all_of_it(CALLS)

    def test_anything_for_a_standing(self):
        rules = read("a <- not b\n")
        for thing in NEITHER + NAMES + [["a", "a"], ["a", 1], {"a": True}, "a", [("a",)], None, [["a"]], Rule("a")]:
            self.assertIs(is_standing(rules, [], thing), False, thing)
        for thing in (["a"], ("a",)):
            self.assertIs(is_standing(rules, [], thing), True)

    def test_several_wrong_at_once(self):
        rules = [Rule("a", unless=[letter]) for letter in LETTERS[:9]]
        self.refused(BadRules, standings, rules + [None], [1])
        self.refused(BadNames, standings, rules, ["a", "a"])
        self.refused(BadNames, standings, rules, list(LETTERS[9:26]))
        self.refused(TooMany, standings, rules, list(LETTERS[9:24]))
        self.refused(BadNames, is_standing, rules, [1], [1])


if __name__ == "__main__":
    unittest.main()

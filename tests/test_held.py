"""[2] (a), [20] to [23]: what is held, levels, papers and closed sets."""

import itertools
import random
import unittest

from groundlots import held as file
from groundlots.errors import BadNames, IsHeld, NotHeld
from groundlots.held import clash, held, levels, shows, shuts, why, why_not
from groundlots.rules import Rule
from refusing import Refusing
from things import LETTERS, LISTS, NAMES, NEITHER, base_with
from walks import (all_sets, is_closed, is_least_paper, is_paper, names_of, quick_held, slow_clash, slow_held,
                   some_bases, some_of)

GROUNDED = {"rules": [Rule("b", ["a"]), Rule(None, ["c"])], "grounds": ["a"]}
KINDS = {"rules": "plain", "grounds": "names"}
CALLS = [(held, GROUNDED, KINDS), (clash, GROUNDED, KINDS), (levels, GROUNDED, KINDS)] + [
    (call, {**GROUNDED, "name": name, **more}, {**KINDS, "name": "goal"})
    for call, name, more in ((why, "b", {}), (why_not, "c", {}), (why_not, None, {}), (why, "a", {}),
                             (shows, "b", {"paper": [0]}), (shuts, None, {"names": ["a"]}))]


def some_grounds(many, **more):
    """Small bases with grounds, some of which stand in no rule."""
    chance = random.Random(20)
    for rules in some_bases(many, **more):
        yield rules, some_of(chance, "abef")


class Held(unittest.TestCase):
    def test_where_these_are_defined(self):
        for call in (held, clash, levels, why, shows, why_not, shuts):
            self.assertEqual(call.__module__, file.__name__)

    def test_ordinary(self):
        rules = [Rule("wet", ["rain", "out"]), Rule("ill", ["wet"]), Rule("out"), Rule(None, ["ill", "well"])]
        self.assertEqual(held(rules, ["rain"]), ["ill", "out", "rain", "wet"])
        self.assertEqual(held(rules, []), ["out"])
        self.assertIs(clash(rules, ["rain"]), False)
        self.assertIs(clash(rules, ("well", "rain")), True)
        told = levels(rules, ["rain"])
        self.assertEqual(list(told.items()), [("ill", 3), ("out", 1), ("rain", 0), ("wet", 2)])

    def test_by_place_by_name_and_tuples(self):
        rules = (Rule("b", ["a"]),)
        self.assertEqual(held(rules=rules, grounds=("a",)), ["a", "b"])
        self.assertIs(clash(rules=rules, grounds=("a",)), False)
        self.assertEqual(levels(rules=rules, grounds=("a",)), {"a": 0, "b": 1})
        self.assertEqual(why(rules=rules, grounds=("a",), name="b"), [0])
        self.assertIs(shows(rules=rules, grounds=("a",), name="b", paper=(0,)), True)
        self.assertEqual(why_not(rules=rules, grounds=("a",), name=None), ["a", "b"])
        self.assertIs(shuts(rules=rules, grounds=("a",), name=None, names=("b", "a")), True)

    def test_against_all_closed_sets(self):
        for rules, grounds in some_grounds(400):
            self.assertEqual(held(rules, grounds), slow_held(rules, grounds))
            self.assertIs(clash(rules, grounds), slow_clash(rules, grounds))

    def test_chains_in_any_order(self):
        chain = [Rule(LETTERS[at + 1], [LETTERS[at]]) for at in range(23)]
        for rules in (chain, chain[::-1]):
            self.assertEqual(held(rules, ["a"]), list(LETTERS[:24]))
            self.assertEqual(held(rules, ["c"]), list(LETTERS[2:24]))
            self.assertEqual(list(levels(rules, ["a"]).items()), [(LETTERS[at], at) for at in range(24)])
            self.assertEqual(sorted(why(rules, ["a"], "x")), list(range(23)))

    def test_circles_hold_nothing(self):
        rules = [Rule("a", ["b"]), Rule("b", ["a"]), Rule("c", ["c"])]
        self.assertEqual(held(rules, []), [])
        self.assertEqual(held(rules, ["b"]), ["a", "b"])

    def test_empty_rules_and_grounds(self):
        self.assertEqual(held([], []), [])
        self.assertEqual(held((), ("b", "a")), ["a", "b"])
        self.assertIs(clash([], []), False)
        self.assertEqual(levels([], []), {})
        self.assertEqual(list(levels([], ["b", "a"]).items()), [("a", 0), ("b", 0)])

    def test_a_never_without_a_body(self):
        for rules in ([Rule(None)], [Rule("a"), Rule(None, ["z"]), Rule(None)]):
            self.assertIs(clash(rules, []), True)
            self.assertIs(clash(rules, ["b"]), True)
            self.assertEqual(why(rules, ["a"], None), [len(rules) - 1])
            self.assertIs(shuts(rules, [], None, ["a"]), False)

    def test_a_never_bears_no_name(self):
        self.assertEqual(held([Rule(None, ["a"]), Rule("b", ["a"])], ["a"]), ["a", "b"])
        self.assertEqual(levels([Rule(None, ["a"])], ["a"]), {"a": 0})


class Levels(unittest.TestCase):
    def test_rounds(self):
        for rules, grounds in some_grounds(400, nevers=0):
            told = levels(rules, grounds)
            self.assertEqual(list(told), held(rules, grounds))
            for name, level in told.items():
                bodies = [rule.body for rule in rules if rule.head == name and set(rule.body) <= set(told)]
                rounds = [max([told[one] for one in body], default=0) + 1 for body in bodies]
                self.assertEqual(level, 0 if name in grounds else min(rounds))
                self.assertIs(type(level), int)

    def test_heads_of_one_round_come_in_together(self):
        rules = [Rule("b", ["a"]), Rule("c", ["b"]), Rule("d", ["b", "a"]), Rule("c", ["d"])]
        self.assertEqual(list(levels(rules, ["a"]).items()), [("a", 0), ("b", 1), ("c", 2), ("d", 2)])

    def test_a_ground_that_is_a_head_too(self):
        self.assertEqual(levels([Rule("a"), Rule("b", ["a"])], ["a"]), {"a": 0, "b": 1})
        self.assertEqual(levels([Rule("a"), Rule("b", ["a"])], []), {"a": 1, "b": 2})


class Papers(Refusing):
    def test_all_lists_of_places(self):
        for rules, grounds in some_grounds(120, names="abc", most_rules=4):
            places = range(len(rules))
            for many in range(4):
                for paper in itertools.product(places, repeat=many):
                    for name in (None, "a", "b", "c", "f", "z"):
                        right = is_paper(rules, grounds, name, paper)
                        self.assertIs(shows(rules, grounds, name, list(paper)), right, (grounds, name, paper))
                        self.assertIs(shows(rules, grounds, name, paper), right)

    def test_why_is_a_least_paper_just_where_it_is_held(self):
        found = {True: 0, False: 0}
        for rules, grounds in some_grounds(500):
            there = slow_held(rules, grounds)
            for name in ("a", "b", "c", "d", "e", "f", "z", None):
                is_held = slow_clash(rules, grounds) if name is None else name in there
                found[is_held] += 1
                if is_held:
                    told = why(rules, grounds, name)
                    self.assertIs(type(told), list)
                    self.assertTrue(is_least_paper(rules, grounds, name, told), (grounds, name, told))
                    self.assertIs(shows(rules, grounds, name, told), True)
                    self.refused(IsHeld, why_not, rules, grounds, name)
                else:
                    self.refused(NotHeld, why, rules, grounds, name)
                    told = why_not(rules, grounds, name)
                    self.assertEqual(told, there)
                    self.assertIs(shuts(rules, grounds, name, told), True)
        self.assertGreater(min(found.values()), 300)

    def test_long_papers_are_least(self):
        for rules in some_bases(40, names=LETTERS[:12], most_rules=40, seed=5):
            there = quick_held(rules, ["a", "b"])
            for name in there:
                told = why(rules, ["a", "b"], name)
                self.assertTrue(is_paper(rules, ["a", "b"], name, told))
                for at in range(len(told)):
                    self.assertFalse(is_paper(rules, ["a", "b"], name, told[:at] + told[at + 1:]))

    def test_needless_rules_stay_out(self):
        rules = [Rule("x", ["a"]), Rule("b", ["a"]), Rule("y", ["b"]), Rule("c", ["b"]), Rule("z", ["c"]), Rule("b")]
        self.assertIn(why(rules, ["a"], "c"), ([1, 3], [5, 3]))
        self.assertEqual(why(rules, [], "c"), [5, 3])
        self.assertEqual(why(rules, ["a", "b"], "c"), [3])

    def test_a_ground(self):
        rules = [Rule("a", ["a"]), Rule("a"), Rule("b")]
        self.assertEqual(why(rules, ["a"], "a"), [])
        for paper, right in (([], True), ([0], True), ([1], True), ([2, 0], True), ([0, 0, 1], True), ([2], False),
                             ([1, 2], False), ((), True)):
            self.assertIs(shows(rules, ["a"], "a", paper), right, paper)
        self.assertEqual(why(rules, [], "a"), [1])
        self.assertIs(shows(rules, [], "a", []), False)
        self.assertIs(shows(rules, [], "a", [0]), False)
        self.assertIs(shows(rules, [], "a", [1, 0]), True)

    def test_a_ground_that_stands_nowhere(self):
        self.assertEqual(why([], ["a"], "a"), [])
        self.assertIs(shows([], ["a"], "a", []), True)
        self.assertIs(shows([], ["a"], "b", []), False)
        self.assertIs(shows([], ["a"], None, []), False)

    def test_places_twice_and_needless_ones(self):
        rules = [Rule("b", ["a"]), Rule("c", ["b"]), Rule("d", ["a"]), Rule(None, ["c"])]
        for paper in ([0, 1], [0, 0, 1], [0, 1, 1], [0, 2, 1], [2, 0, 2, 0, 1], [0, 1, 0, 2, 1]):
            self.assertIs(shows(rules, ["a"], "c", paper), True, paper)
            self.assertIs(shows(rules, ["a"], None, paper + [3]), True)
            self.assertIs(shows(rules, ["a"], None, paper), False)
        for paper in ([1], [1, 0], [1, 0, 1], [0, 1, 0], [0], [], [0, 3, 1], [0, 1, 3], [0, 1, 2]):
            self.assertIs(shows(rules, ["a"], "c", paper), False, paper)

    def test_nevers_stand_last_alone(self):
        rules = [Rule(None, ["a"]), Rule("b", ["a"]), Rule(None, ["b"])]
        for paper, right in (([0], True), ([1, 0], True), ([1, 2], True), ([2], False), ([0, 0], False),
                             ([0, 1, 2], False), ([1, 2, 0], False), ([1], False), ([1, 0, 2], False)):
            self.assertIs(shows(rules, ["a"], None, paper), right, paper)
        self.assertIs(shows(rules, ["a"], "b", [0, 1]), False)
        self.assertIs(shows(rules, ["a"], "b", [1, 0]), False)

    def test_papers_of_anything(self):
        rules = [Rule("y"), Rule("y"), Rule("b", ["a"]), Rule(None, ["a"])]
        for name in ("b", None, "z"):
            for thing in NEITHER + NAMES + LISTS + [["b"], [None], [0.0], [0, "b"], [[0]], [(0,)], "0", {0: 0}, {0: 1}]:
                if thing not in ([], ()):
                    self.assertIs(shows(rules, ["a"], name, thing), False, (name, thing))

    def test_places_that_are_none(self):
        rules = [Rule("b", ["a"]), Rule("b", ["a"])]
        for place in (-1, -2, 2, 3, 10 ** 30, True, False, None, "0", [0], (0,), {}, Rule("b")):
            for paper in ([place], [place, 0], [0, place], [0, place, 0]):
                self.assertIs(shows(rules, ["a"], "b", paper), False, paper)

    def test_new_lists_each_time(self):
        rules, grounds = [Rule("b", ["a"]), Rule("c", ["b"])], ["a"]
        for call in (lambda: held(rules, grounds), lambda: levels(rules, grounds), lambda: why(rules, grounds, "c"),
                     lambda: why_not(rules, grounds, None), lambda: why(rules, grounds, "a")):
            told = call()
            told.clear()
            self.assertIsNot(call(), told)
        self.assertEqual((rules, grounds), ([Rule("b", ["a"]), Rule("c", ["b"])], ["a"]))
        self.assertEqual(held(rules, grounds), ["a", "b", "c"])


class Closed(Refusing):
    def test_all_sets_of_names(self):
        for rules, grounds in some_grounds(60, names="abcd"):
            for names in all_sets("abcdefz"):
                for name in (None, "a", "d", "f", "z"):
                    right = set(grounds) <= set(names) and is_closed(rules, names) and name not in names
                    if name is None:
                        right = right and not any(rule.head is None and set(rule.body) <= set(names) for rule in rules)
                    self.assertIs(shuts(rules, grounds, name, names), right)
                    self.assertIs(shuts(rules, grounds, name, list(names)[::-1]), right)

    def test_nothing_has_both_a_paper_and_a_closed_set(self):
        for rules, grounds in some_grounds(40, names="abc", most_rules=3):
            papers = [paper for many in range(4) for paper in itertools.product(range(len(rules)), repeat=many)]
            for name in ("a", "b", None):
                shown = any(shows(rules, grounds, name, paper) for paper in papers)
                shut = any(shuts(rules, grounds, name, names) for names in all_sets(names_of(rules, grounds)))
                self.assertIsNot(shown, shut)

    def test_of_anything(self):
        rules = [Rule("b", ["a"]), Rule(None, ["c"])]
        for name in ("d", None):
            for thing in NEITHER + NAMES + [list("abab"), ["a", "b", "b"], {"a": 1, "b": 2}, [["a", "b"]],
                                            ["a", "b", None], ["a", "b", 1], list(LETTERS[:25]), [Rule("a")]]:
                self.assertIs(shuts(rules, ["a"], name, thing), False, thing)
            self.assertIs(shuts(rules, ["a"], name, ["b", "a"]), True)
            self.assertIs(shuts(rules, ["a"], name, ("a", "b", "zz")), True)
            self.assertIs(shuts(rules, ["a"], name, []), False)
            self.assertIs(shuts(rules, [], name, []), True)
            self.assertIs(shuts(rules, [], name, ()), True)

    def test_24_names(self):
        self.assertIs(shuts([], [], "z", list(LETTERS[:24])), True)
        self.assertIs(shuts([], [], "z", list(LETTERS[:25])), False)


class Wrong(Refusing):
    def test_wrong_things_in_each_place(self):
        self.all_of_it(CALLS)

    def test_as_many_as_there_may_be(self):
        for call, good, _ in CALLS:
            for rules in ([Rule("b", ["a"]), Rule(None, ["c"])] + [Rule("d", ["e"])] * 38,
                          [Rule("b", ["a"]), Rule(None, ["c"])] + [Rule(None, ["d", name]) for name in LETTERS[4:24]]):
                call(**{**good, "rules": rules})

    def test_25_names_of_rules_and_grounds(self):
        for call, good, _ in CALLS:
            self.refused(BadNames, call, **{**good, "rules": base_with(24), "grounds": ["y"]})
            self.refused(BadNames, call, **{**good, "rules": [Rule("y", ["z"])], "grounds": list(LETTERS[:23])})
            # It is the grounds that are refused, so that comes ahead of what stands behind them.
            if "name" in good:
                self.refused(BadNames, call, **{**good, "rules": base_with(24), "grounds": ["y"], "name": 1})
        self.assertEqual(held(base_with(24), list(LETTERS[:24])), list(LETTERS[:24]))
        self.assertEqual(held([Rule("y", ["z"])], list(LETTERS[:22])), list(LETTERS[:22]))

    def test_a_name_that_stands_nowhere_is_no_25th(self):
        rules, grounds = base_with(23), ["a", "x"]
        self.refused(NotHeld, why, rules, grounds, "zz")
        self.assertEqual(why_not(rules, grounds, "zz"), ["a", "x"])
        self.assertIs(shuts(rules, grounds, "zz", ["a", "x"]), True)
        self.assertIs(shows(rules, grounds, "zz", [0]), False)


if __name__ == "__main__":
    unittest.main()

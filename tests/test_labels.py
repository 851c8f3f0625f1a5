"""[2] (b), [40] to [42]: contradictions, labels and what lacks a name."""

import itertools
import random
import unittest

from groundlots import labels as file
from groundlots.errors import BadNames
from groundlots.held import shows, why
from groundlots.labels import backed, contradictions, is_label, label, labels, lacking
from groundlots.rules import Rule
from refusing import Refusing
from things import LETTERS, LISTS, NAMES, NEITHER, base_with
from walks import (is_least_paper, many_rules, names_of, slow_contradictions, slow_label, slow_labels, slow_lacking,
                   some_bases, some_of, sound_sets)

BASE = {"rules": [Rule("c", ["a"]), Rule("c", ["b"]), Rule(None, ["a", "b"])], "may": ["b", "a"]}
KINDS = {"rules": "plain", "may": "may"}
NAMED = {**KINDS, "name": "name"}
CALLS = [(contradictions, BASE, KINDS), (labels, BASE, KINDS), (label, {**BASE, "name": "c"}, NAMED),
         (lacking, {**BASE, "name": "c"}, NAMED), (is_label, {**BASE, "name": "c", "thing": []}, NAMED),
         (backed, {**BASE, "name": "c"}, NAMED)]


def some_networks(many, **more):
    """Small bases with names that may be assumed, some of which stand in no rule."""
    chance = random.Random(40)
    for rules in some_bases(many, **more):
        yield rules, some_of(chance, "abcdf")


def pairs_to_ten():
    """Ten names of which any two clash, and any one holds k."""
    names = list(LETTERS[:10])
    return [Rule(None, list(pair)) for pair in itertools.combinations("abcdef", 2)] + [
        Rule("k", [name]) for name in names], names


class Labels(unittest.TestCase):
    def test_where_these_are_defined(self):
        for call in (contradictions, label, labels, lacking, is_label, backed):
            self.assertEqual(call.__module__, file.__name__)

    def test_ordinary(self):
        rules = [Rule("wet", ["rain"]), Rule("wet", ["hose", "on"]), Rule(None, ["wet", "dry"]),
                 Rule("wet", ["rain", "on"])]
        may = ["rain", "on", "hose", "dry"]
        self.assertEqual(contradictions(rules, may), [("dry", "rain"), ("dry", "hose", "on")])
        self.assertEqual(label(rules, may, "wet"), [("rain",), ("hose", "on")])
        self.assertEqual(label(rules, may, "dry"), [("dry",)])
        self.assertEqual(lacking(rules, may, "wet"), [("dry", "hose"), ("dry", "on")])
        self.assertEqual(lacking(rules, may, "dry"), [("hose", "on", "rain")])
        self.assertEqual(list(labels(rules, may).items()), [
            ("dry", [("dry",)]), ("hose", [("hose",)]), ("on", [("on",)]), ("rain", [("rain",)]),
            ("wet", [("rain",), ("hose", "on")])])
        self.assertEqual(backed(rules, may, "wet"), [(("rain",), [0]), (("hose", "on"), [1])])
        self.assertIs(is_label(rules, may, "wet", [("rain",), ("hose", "on")]), True)

    def test_by_place_by_name_and_tuples(self):
        more = {"rules": (Rule("b", ["a"]), Rule(None, ["c"])), "may": ("c", "a")}
        self.assertEqual(contradictions(**more), [("c",)])
        self.assertEqual(label(name="b", **more), [("a",)])
        self.assertEqual(labels(**more), {"a": [("a",)], "b": [("a",)], "c": []})
        self.assertEqual(lacking(name="b", **more), [()])
        self.assertIs(is_label(name="b", thing=(("a",),), **more), True)
        self.assertEqual(backed(name="a", **more), [(("a",), [])])

    def test_against_all_sets(self):
        for rules, may in some_networks(300):
            self.assertEqual(contradictions(rules, may), slow_contradictions(rules, may))
            told = labels(rules, may)
            self.assertEqual(list(told.items()), list(slow_labels(rules, may).items()))
            for name in names_of(rules, may + ["z"]):
                self.assertEqual(label(rules, may, name), told.get(name, []))
                self.assertEqual(lacking(rules, may, name), slow_lacking(rules, may, name))

    def test_each_sound_set_has_one_or_lies_within_one_never_both(self):
        for rules, may in some_networks(200, seed=2):
            for name in names_of(rules, may + ["z"]):
                least, widest = label(rules, may, name), lacking(rules, may, name)
                for one in sound_sets(rules, may):
                    has = any(set(some) <= set(one) for some in least)
                    lies = any(set(one) <= set(some) for some in widest)
                    self.assertIsNot(has, lies)

    def test_kinds_of_what_is_told(self):
        for rules, may in some_networks(30, seed=3):
            for told in [contradictions(rules, may), *labels(rules, may).values(), lacking(rules, may, "a")]:
                self.assertIs(type(told), list)
                for one in told:
                    self.assertIs(type(one), tuple)

    def test_the_empty_set_bears_and_clashes(self):
        self.assertEqual(label([Rule("a")], ["a", "b"], "a"), [()])
        self.assertEqual(lacking([Rule("a")], ["a", "b"], "a"), [])
        for rules in ([Rule(None)], [Rule("a"), Rule(None, ["a"])]):
            self.assertEqual(contradictions(rules, ["a", "b"]), [()])
            self.assertEqual(labels(rules, ["a", "b"]), {"a": [], "b": []})
            self.assertEqual(lacking(rules, ["a", "b"], "b"), [])
            self.assertEqual(lacking(rules, ["a", "b"], "z"), [])
            self.assertEqual(backed(rules, ["a", "b"], "a"), [])

    def test_nothing_at_all(self):
        self.assertEqual(contradictions([], []), [])
        self.assertEqual(labels([], []), {})
        self.assertEqual(label([], [], "a"), [])
        self.assertEqual(lacking([], [], "a"), [()])
        self.assertEqual(backed([], [], "a"), [])
        self.assertIs(is_label([], [], "a", []), True)

    def test_a_name_that_clashes_alone(self):
        rules = [Rule(None, ["a"]), Rule("b", ["a"])]
        self.assertEqual(labels(rules, ["a", "c"]), {"a": [], "b": [], "c": [("c",)]})
        self.assertEqual(lacking(rules, ["a", "c"], "a"), [("c",)])

    def test_ten_assumed_names(self):
        rules, may = pairs_to_ten()
        self.assertEqual(contradictions(rules, may), list(itertools.combinations("abcdef", 2)))
        self.assertEqual(label(rules, may, "k"), [(name,) for name in may])
        self.assertEqual(lacking(rules, may, "k"), [()])
        self.assertEqual(len(lacking(rules, may, "z")), 6)
        self.assertEqual(labels(rules, may), slow_labels(rules, may))
        wide = [Rule(f"x{'y' * at}", [LETTERS[at], LETTERS[at + 5]]) for at in range(5)]
        wide.append(Rule("k", [rule.head for rule in wide]))
        self.assertEqual(label(wide, may, "k"), [tuple(may)])
        self.assertEqual(len(lacking(wide, may, "k")), 10)

    def test_more_than_a_hundred_sets(self):
        may = list(LETTERS[:10])
        rules = many_rules()
        self.assertEqual(len(label(rules, may, "r")), 120)
        self.assertEqual(label(rules, may, "r"), slow_label(rules, may, "r"))
        self.assertEqual(lacking(rules, may, "r"), slow_lacking(rules, may, "r"))
        against = rules + [Rule(None, ["r"])]
        self.assertEqual(len(contradictions(against, may)), 120)
        self.assertEqual(contradictions(against, may), slow_contradictions(against, may))
        # One of each of five pairs.
        most = [Rule(f"x{one}", [some]) for one, other in zip("abcde", "fghij") for some in (one, other)]
        most += [Rule("k", [f"x{one}" for one in "abcde"])]
        self.assertEqual(label(most, may, "k"), slow_label(most, may, "k"))
        self.assertEqual(len(label(most, may, "k")), 32)
        self.assertEqual(lacking(most, may, "k"), slow_lacking(most, may, "k"))

    def test_new_lists_each_time(self):
        rules, may = BASE["rules"], ["b", "a"]
        for call in (lambda: contradictions(rules, may), lambda: label(rules, may, "c"), lambda: labels(rules, may),
                     lambda: lacking(rules, may, "c"), lambda: backed(rules, may, "c")):
            told = call()
            before = dict(told) if isinstance(told, dict) else list(told)
            told.clear()
            self.assertEqual(call(), before)
        one = labels(rules, may)
        one["c"].append(1)
        self.assertEqual(labels(rules, may)["c"], [("a",), ("b",)])
        self.assertEqual(may, ["b", "a"])


class IsLabel(unittest.TestCase):
    def test_just_the_label(self):
        for rules, may in some_networks(60, seed=4):
            for name in names_of(rules, may + ["z"]):
                right = slow_label(rules, may, name)
                self.assertIs(is_label(rules, may, name, right), True)
                self.assertIs(is_label(rules, may, name, tuple(right)), True)
                for other in ([()], [("a",)], [("a",), ("b",)], [("b",)], [("a", "b")], right[:-1], right + [("z",)],
                              right[::-1], right * 2, [one[::-1] for one in right], [("z",)] + right):
                    self.assertIs(is_label(rules, may, name, other), other == right, (right, other))

    def test_of_anything(self):
        rules = [Rule("c", ["a"]), Rule("c", ["b"])]
        for name, right in (("c", [("a",), ("b",)]), ("a", [("a",)]), ("z", [])):
            for thing in NEITHER + NAMES + LISTS + [[["a"], ["b"]], (["a"], ["b"]), [["a"]], ["ab"], {("a",): 1},
                                                    {("a",): 1, ("b",): 2}, [("a",), ["b"]], [("a",), "b"], ["a", "b"],
                                                    [("a",), ("b",), None], [(Rule("a"),), ("b",)], [(1,)], [(True,)],
                                                    [("a", 1)], [(("a",),)], [None], [()], [("b",), ("a",)], right]:
                told = is_label(rules, ["a", "b"], name, thing)
                is_right = isinstance(thing, (list, tuple)) and list(thing) == right
                self.assertIs(told, is_right, (name, thing))
            self.assertIs(is_label(rules, ["a", "b"], name, right), True)


class Backed(unittest.TestCase):
    def test_a_paper_for_each_set(self):
        for rules, may in some_networks(200, seed=6):
            for name in names_of(rules, may + ["z"]):
                told = backed(rules, may, name)
                self.assertIs(type(told), list)
                self.assertEqual([one for one, _ in told], label(rules, may, name))
                for pair in told:
                    self.assertIs(type(pair), tuple)
                    one, paper = pair
                    self.assertEqual(paper, why(rules, one, name))
                    self.assertIs(shows(rules, one, name, paper), True)
                    self.assertTrue(is_least_paper(rules, one, name, paper))


class Wrong(Refusing):
    def test_wrong_things_in_each_place(self):
        self.all_of_it(CALLS)

    def test_eleven_assumed_names(self):
        for call, good, _ in CALLS:
            call(**{**good, "rules": [], "may": list(LETTERS[:10])})
            self.refused(BadNames, call, **{**good, "rules": [], "may": list(LETTERS[:11])})

    def test_25_names_of_rules_and_may(self):
        for call, good, _ in CALLS:
            call(**{**good, "rules": base_with(24), "may": list(LETTERS[14:24])})
            call(**{**good, "rules": base_with(23), "may": ["a", "y"]})
            self.refused(BadNames, call, **{**good, "rules": base_with(24), "may": ["y"]})
            self.refused(BadNames, call, **{**good, "rules": base_with(15), "may": list(LETTERS[15:25])})
            # It is may that is refused, so that comes ahead of the name.
            if "name" in good:
                self.refused(BadNames, call, **{**good, "rules": base_with(24), "may": ["y"], "name": 1})
                # A name that is asked for is no 25th one.
                call(**{**good, "rules": base_with(24), "may": ["a"], "name": "zz"})

    def test_forty_rules(self):
        for call, good, _ in CALLS:
            call(**{**good, "rules": [Rule("a", ["b"])] * 40})


if __name__ == "__main__":
    unittest.main()

"""[2] (b), [60] to [62]: repairs, contexts, and what is held by them."""

import itertools
import random
import unittest

from groundlots import contexts as file
from groundlots.contexts import blamed, borne, contexts, counter, defence, free, in_all, in_some, repairs
from groundlots.errors import BadNames, IsHeld, NotHeld
from groundlots.labels import contradictions, label, lacking
from groundlots.lots import greatest, hits
from groundlots.rules import Rule
from refusing import Refusing
from things import LETTERS, base_with
from walks import (in_lots, many_rules, names_of, quick_held, slow_contexts, slow_contradictions, slow_label,
                   slow_repairs, some_bases, some_of)

BASE = {"rules": [Rule("c", ["a"]), Rule("c", ["b"]), Rule(None, ["a", "b"])], "may": ["b", "a"]}
KINDS = {"rules": "plain", "may": "may"}
NAMED = {**KINDS, "name": "name"}
CALLS = [(call, BASE, KINDS) for call in (repairs, contexts, blamed, free, in_all, in_some)] + [
    (call, {**BASE, "name": name}, NAMED) for call, name in ((borne, "c"), (defence, "c"), (counter, "a"))]


def some_networks(many, **more):
    """Small bases with names that may be assumed, some of which stand in no rule."""
    chance = random.Random(60)
    for rules in some_bases(many // 3, nevers=3, **more):
        yield rules, some_of(chance, "abcdf")
    # Where no body is empty, some sets are sound, and where more is assumed, more sets clash.
    for rules in some_bases(many - many // 3, nevers=3, sizes=(1, 2, 2, 2, 3), **more):
        yield rules, some_of(chance, "abcdefg") + ["h"]


def slow_borne(rules, may, name):
    found = [name in quick_held(rules, one) for one in slow_contexts(rules, may)]
    return "all" if found and all(found) else "some" if any(found) else "none"


class Ordinary(Refusing):
    def test_where_these_are_defined(self):
        for call in (repairs, contexts, blamed, free, borne, in_all, in_some, defence, counter):
            self.assertEqual(call.__module__, file.__name__)

    def test_ordinary(self):
        rules = [Rule("wet", ["rain"]), Rule("wet", ["hose"]), Rule(None, ["rain", "hose"]), Rule(None, ["wet", "dry"]),
                 Rule("x", ["wet", "rain"])]
        may = ["rain", "hose", "dry", "cold"]
        self.assertEqual(repairs(rules, may), [("dry", "hose"), ("dry", "rain"), ("hose", "rain")])
        self.assertEqual(contexts(rules, may), [("cold", "dry"), ("cold", "hose"), ("cold", "rain")])
        self.assertEqual(blamed(rules, may), ["dry", "hose", "rain"])
        self.assertEqual(free(rules, may), ["cold"])
        told = [borne(rules, may, name) for name in ("cold", "wet", "dry", "z")]
        self.assertEqual(told, ["all", "some", "some", "none"])
        self.assertEqual(in_all(rules, may), ["cold"])
        self.assertEqual(in_some(rules, may), ["cold", "dry", "hose", "rain", "wet", "x"])
        self.assertEqual(defence(rules, may, "cold"), [(one, ("cold",)) for one in repairs(rules, may)])
        self.assertEqual(counter(rules, may, "wet"), ("cold", "dry"))
        self.assertEqual(counter(rules, may, "x"), ("cold", "dry"))
        self.assertEqual(counter(rules, may, "dry"), ("cold", "hose"))
        rules.append(Rule("wet", ["dry"]))
        self.assertEqual(repairs(rules, may), [("dry", "hose"), ("dry", "rain")])
        self.assertEqual(defence(rules, may, "wet"), [(("dry", "hose"), ("rain",)), (("dry", "rain"), ("hose",))])

    def test_by_place_by_name_and_tuples(self):
        more = {"rules": (Rule(None, ["a", "b"]), Rule("c", ["a"]), Rule("c", ["b"])), "may": ("b", "a")}
        self.assertEqual(repairs(**more), [("a",), ("b",)])
        self.assertEqual(contexts(**more), [("a",), ("b",)])
        self.assertEqual(blamed(**more), ["a", "b"])
        self.assertEqual(free(**more), [])
        self.assertEqual(borne(name="c", **more), "all")
        self.assertEqual(in_all(**more), ["c"])
        self.assertEqual(in_some(**more), ["a", "b", "c"])
        self.assertEqual(defence(name="c", **more), [(("a",), ("b",)), (("b",), ("a",))])
        self.assertEqual(counter(name="a", **more), ("b",))

    def test_kinds_of_what_is_told(self):
        for told in (repairs(**BASE), contexts(**BASE), blamed(**BASE), free(**BASE), in_all(**BASE), in_some(**BASE),
                     defence(name="c", **BASE)):
            self.assertIs(type(told), list)
        for one in repairs(**BASE) + contexts(**BASE) + defence(name="c", **BASE) + [counter(name="a", **BASE)]:
            self.assertIs(type(one), tuple)

    def test_new_lists_each_time(self):
        for call, good, _ in CALLS:
            told = call(**good)
            if isinstance(told, list):
                before = list(told)
                told.clear()
                self.assertEqual(call(**good), before)
        self.assertEqual(BASE["may"], ["b", "a"])


class AgainstAllSets(Refusing):
    def test_repairs_and_contexts(self):
        for rules, may in some_networks(300):
            self.assertEqual(repairs(rules, may), slow_repairs(rules, may))
            self.assertEqual(contexts(rules, may), slow_contexts(rules, may))

    def test_each_led_to_the_other_and_back(self):
        for rules, may in some_networks(200, seed=2):
            against, mended, stand = contradictions(rules, may), repairs(rules, may), contexts(rules, may)
            self.assertEqual(mended, hits(against))
            self.assertEqual(against, hits(mended))
            self.assertEqual(stand, in_lots(set(may) - set(one) for one in mended))
            self.assertEqual(mended, in_lots(set(may) - set(one) for one in stand))
            self.assertEqual(stand, greatest(may, against))

    def test_blamed_and_free(self):
        for rules, may in some_networks(200, seed=3):
            wrong = sorted({name for one in slow_contradictions(rules, may) for name in one})
            self.assertEqual(blamed(rules, may), wrong)
            self.assertEqual(free(rules, may), sorted(set(may) - set(wrong)))
            stand = slow_contexts(rules, may)
            if stand:
                self.assertEqual(free(rules, may), [name for name in sorted(may) if all(name in one for one in stand)])

    def test_borne(self):
        found = {"all": 0, "some": 0, "none": 0}
        for rules, may in some_networks(300, seed=4):
            names = names_of(rules, may)
            for name in names + ["z"]:
                told = borne(rules, may, name)
                self.assertEqual(told, slow_borne(rules, may, name))
                found[told] += 1
            self.assertEqual(in_all(rules, may), [name for name in names if slow_borne(rules, may, name) == "all"])
            self.assertEqual(in_some(rules, may), [name for name in names if slow_borne(rules, may, name) != "none"])
        self.assertGreater(min(found.values()), 100)

    def test_defence_and_counter(self):
        found = {"all": 0, "else": 0, "counter": 0, "none": 0}
        for rules, may in some_networks(300, seed=5):
            stand = slow_contexts(rules, may)
            for name in names_of(rules, may) + ["z"]:
                if slow_borne(rules, may, name) == "all":
                    least = slow_label(rules, may, name)
                    right = [(one, [some for some in least if not set(some) & set(one)][0])
                             for one in slow_repairs(rules, may)]
                    self.assertEqual(defence(rules, may, name), right)
                    found["all"] += len(right) > 1
                else:
                    self.refused(NotHeld, defence, rules, may, name)
                    found["else"] += 1
                without = [one for one in stand if name not in quick_held(rules, one)]
                if without:
                    self.assertEqual(counter(rules, may, name), without[0])
                    found["counter"] += 1
                else:
                    self.refused(IsHeld, counter, rules, may, name)
                    found["none"] += 1
        self.assertGreater(min(found.values()), 50)


class Edges(Refusing):
    def test_no_contradiction(self):
        rules, may = [Rule("c", ["a"])], ["b", "a"]
        self.assertEqual((repairs(rules, may), contexts(rules, may)), ([()], [("a", "b")]))
        self.assertEqual((blamed(rules, may), free(rules, may)), ([], ["a", "b"]))
        self.assertEqual((in_all(rules, may), in_some(rules, may)), (["a", "b", "c"], ["a", "b", "c"]))
        self.assertEqual(defence(rules, may, "c"), [((), ("a",))])
        self.refused(IsHeld, counter, rules, may, "c")
        self.assertEqual(counter(rules, may, "z"), ("a", "b"))
        self.refused(NotHeld, defence, rules, may, "z")

    def test_nothing_at_all(self):
        self.assertEqual((repairs([], []), contexts([], []), blamed([], []), free([], [])), ([()], [()], [], []))
        self.assertEqual((in_all([], []), in_some([], []), borne([], [], "a")), ([], [], "none"))
        self.assertEqual(counter([], [], "a"), ())
        self.refused(NotHeld, defence, [], [], "a")
        self.assertEqual(defence([Rule("a")], [], "a"), [((), ())])
        self.assertEqual(borne([Rule("a")], [], "a"), "all")

    def test_no_contexts(self):
        for rules in ([Rule(None), Rule("a")], [Rule("a"), Rule(None, ["a"]), Rule(None, ["b"])]):
            for may in ([], ["b", "a"], ["c"]):
                self.assertEqual((repairs(rules, may), contexts(rules, may)), ([], []))
                self.assertEqual((blamed(rules, may), free(rules, may)), ([], sorted(may)))
                self.assertEqual((in_all(rules, may), in_some(rules, may)), ([], []))
                for name in ("a", "b", "z"):
                    self.assertEqual(borne(rules, may, name), "none")
                    self.refused(NotHeld, defence, rules, may, name)
                    self.refused(IsHeld, counter, rules, may, name)

    def test_a_name_that_clashes_alone(self):
        rules, may = [Rule(None, ["a"]), Rule("c", ["b"])], ["a", "b"]
        self.assertEqual((repairs(rules, may), contexts(rules, may)), ([("a",)], [("b",)]))
        self.assertEqual((blamed(rules, may), free(rules, may)), (["a"], ["b"]))
        self.assertEqual(defence(rules, may, "c"), [(("a",), ("b",))])

    def test_all_clash_alone(self):
        rules, may = [Rule(None, ["a"]), Rule(None, ["b"]), Rule("c")], ["a", "b"]
        self.assertEqual((repairs(rules, may), contexts(rules, may)), ([("a", "b")], [()]))
        self.assertEqual(in_all(rules, may), ["c"])
        self.assertEqual(defence(rules, may, "c"), [(("a", "b"), ())])
        self.assertEqual(counter(rules, may, "a"), ())

    def test_ten_assumed_names_and_more_than_a_hundred_contradictions(self):
        rules, may = many_rules() + [Rule(None, ["r"])], list(LETTERS[:10])
        self.assertEqual(len(contradictions(rules, may)), 120)
        self.assertEqual(repairs(rules, may), slow_repairs(rules, may))
        self.assertEqual(contexts(rules, may), slow_contexts(rules, may))
        self.assertEqual((blamed(rules, may), free(rules, may)), (may, []))
        pairs = [Rule(None, list(may[at:at + 2])) for at in range(0, 10, 2)]
        self.assertEqual(repairs(pairs, may), sorted(itertools.product(*[may[at:at + 2] for at in range(0, 10, 2)])))

    def test_the_label_and_what_lacks_it(self):
        for rules, may in some_networks(100, seed=6):
            stand = contexts(rules, may)
            for name in names_of(rules, may):
                if borne(rules, may, name) == "none" and stand:
                    self.assertEqual(lacking(rules, may, name), stand)
                    self.assertEqual(label(rules, may, name), [])


class Wrong(Refusing):
    def test_wrong_things_in_each_place(self):
        self.all_of_it(CALLS)

    def test_eleven_assumed_names(self):
        for call, good, _ in CALLS:
            if call is not defence:
                call(**{**good, "rules": [Rule(None, ["a"])], "may": list(LETTERS[:10])})
            self.refused(BadNames, call, **{**good, "rules": [], "may": list(LETTERS[:11])})

    def test_25_names_of_rules_and_may(self):
        for call, good, _ in CALLS:
            self.refused(BadNames, call, **{**good, "rules": base_with(24), "may": ["y"]})
            self.refused(BadNames, call, **{**good, "rules": base_with(15), "may": list(LETTERS[15:25])})
            self.refused(BadNames, call, **{**good, "rules": base_with(14) + [Rule("y")], "may": list(LETTERS[14:24])})
        self.assertEqual(contexts(base_with(24), ["a"]), [("a",)])
        self.assertEqual(len(in_all(base_with(14), list(LETTERS[14:24]))), 10)


if __name__ == "__main__":
    unittest.main()

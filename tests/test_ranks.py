"""[2] (d), [13], [70] and [71]: ranks, cuts, best contexts, and how firmly names are held."""

import random
import unittest

from groundlots import ranks as file
from groundlots.contexts import contexts, in_all
from groundlots.errors import BadName, BadRanks, BadRules, NotPlain
from groundlots.ranks import MIDDLE, best, clash_rank, cut, firm, firms, in_best
from groundlots.rules import Rule
from refusing import Refusing
from things import LETTERS, base_with
from walks import (is_sound, many_rules, names_of, quick_held, slow_best, slow_clash_rank, slow_contexts, slow_cut,
                   slow_firm, some_bases, some_ranks)

BASE = {"rules": [Rule("c", ["a"]), Rule("c", ["b"]), Rule(None, ["a", "b"])], "ranks": {"b": 3, "a": 7}}
KINDS = {"rules": "plain", "ranks": "ranks"}
CALLS = [
    (cut, {"ranks": {"b": 3, "a": 7}, "least": 3}, {"ranks": "ranks", "least": "least"}),
    (best, BASE, KINDS), (clash_rank, BASE, KINDS), (firm, {**BASE, "name": "c"}, {**KINDS, "name": "name"}),
    (firms, BASE, KINDS), (in_best, BASE, KINDS),
]


def some_ranked(many, **more):
    """Small bases with ranks of names, some of which stand in no rule."""
    chance = random.Random(70)
    for rules in some_bases(many // 3, nevers=3, **more):
        yield rules, some_ranks(chance, "abcdf")
    # Where no body is empty, some sets are sound, and where more is assumed, more sets clash.
    for rules in some_bases(many - many // 3, nevers=3, sizes=(1, 2, 2, 2, 3), **more):
        yield rules, {**some_ranks(chance, "abcdefg"), "h": chance.randint(1, 9)}


class Ordinary(Refusing):
    def test_where_these_are_defined(self):
        for call in (cut, best, clash_rank, firm, firms, in_best):
            self.assertEqual(call.__module__, file.__name__)

    def test_middle(self):
        self.assertEqual((MIDDLE, type(MIDDLE)), (5, int))

    def test_cut(self):
        ranks = {"dry": 9, "cold": 1, "wet": 5, "away": 5}
        told = [cut(ranks, least) for least in range(1, 11)]
        self.assertEqual(told, [("away", "cold", "dry", "wet")] + [("away", "dry", "wet")] * 4 + [("dry",)] * 4 + [()])
        self.assertEqual(cut({}, 1), ())

    def test_ordinary(self):
        rules = [Rule("wet", ["rain"]), Rule("wet", ["hose"]), Rule(None, ["rain", "hose"]), Rule(None, ["wet", "dry"]),
                 Rule("x", ["cold"]), Rule("y")]
        ranks = {"rain": 4, "hose": 4, "dry": 2, "cold": 8}
        self.assertEqual(best(rules, ranks), [("cold", "hose"), ("cold", "rain")])
        self.assertEqual(clash_rank(rules, ranks), 4)
        self.assertEqual([firm(rules, ranks, name) for name in ("cold", "x", "y", "wet", "z")], [8, 8, 10, 0, 0])
        right = {"cold": 8, "dry": 0, "hose": 0, "rain": 0, "wet": 0, "x": 8, "y": 10}
        self.assertEqual(firms(rules, ranks), right)
        self.assertEqual(in_best(rules, ranks), ["cold", "wet", "x", "y"])
        ranks["dry"] = 5
        self.assertEqual(best(rules, ranks), [("cold", "dry")])
        self.assertEqual((clash_rank(rules, ranks), firm(rules, ranks, "dry")), (4, 5))
        del ranks["dry"], ranks["hose"]
        self.assertEqual((best(rules, ranks), clash_rank(rules, ranks)), ([("cold", "rain")], 0))
        self.assertEqual(firm(rules, ranks, "wet"), 4)

    def test_a_best_context_has_in_each_cut_a_context_of_it(self):
        rules = [Rule(None, ["a", "b"]), Rule(None, ["b", "c"])]
        self.assertEqual(contexts(rules, ["a", "b", "c"]), [("b",), ("a", "c")])
        self.assertEqual(best(rules, {"a": 1, "b": 2, "c": 1}), [("b",)])
        self.assertEqual(best(rules, {"a": 2, "b": 2, "c": 1}), [("b",), ("a", "c")])
        self.assertEqual(best(rules, {"a": 2, "b": 1, "c": 1}), [("a", "c")])
        self.assertEqual(best(rules, {"a": 9, "b": 9, "c": 9}), [("b",), ("a", "c")])

    def test_by_place_by_name_and_tuples(self):
        more = {"rules": tuple(BASE["rules"]), "ranks": BASE["ranks"]}
        self.assertEqual(cut(least=4, ranks={"a": 4, "b": 3}), ("a",))
        self.assertEqual(best(**more), [("a",)])
        self.assertEqual(clash_rank(**more), 3)
        self.assertEqual(firm(name="c", **more), 7)
        self.assertEqual(firms(**more), {"a": 7, "b": 0, "c": 7})
        self.assertEqual(in_best(**more), ["a", "c"])

    def test_kinds_of_what_is_told(self):
        self.assertEqual([type(one) for one in (best(**BASE), in_best(**BASE), firms(**BASE))], [list, list, dict])
        self.assertEqual([type(one) for one in (cut({}, 1), best(**BASE)[0])], [tuple, tuple])
        self.assertEqual([type(one) for one in (clash_rank(**BASE), firm(name="c", **BASE))], [int, int])
        self.assertEqual(list(firms(**BASE)), ["a", "b", "c"])

    def test_new_lists_and_dicts_each_time(self):
        before = (list(BASE["rules"]), dict(BASE["ranks"]))
        for call in (best, firms, in_best):
            told = call(**BASE)
            right = dict(told) if isinstance(told, dict) else list(told)
            told.clear()
            self.assertEqual(call(**BASE), right)
        self.assertEqual((BASE["rules"], BASE["ranks"]), before)
        self.assertEqual(list(BASE["ranks"]), ["b", "a"])


class AgainstAllSets(Refusing):
    def test_cut(self):
        chance = random.Random(7)
        for _ in range(200):
            ranks = some_ranks(chance, LETTERS[:10])
            for least in range(1, 11):
                self.assertEqual(cut(ranks, least), slow_cut(ranks, least))

    def test_best(self):
        found = {"none": 0, "fewer": 0, "more": 0}
        for rules, ranks in some_ranked(400):
            told = best(rules, ranks)
            self.assertEqual(told, slow_best(rules, ranks))
            found["none"] += not told
            found["fewer"] += len(told) < len(slow_contexts(rules, ranks))
            found["more"] += len(told) > 1
        self.assertGreater(min(found.values()), 20)

    def test_there_is_a_best_one_where_no_grounds_are_sound(self):
        for rules, ranks in some_ranked(200, seed=2):
            self.assertEqual(best(rules, ranks) != [], is_sound(rules, ()))

    def test_of_one_rank_all_contexts_are_best(self):
        for rules, ranks in some_ranked(100, seed=3):
            self.assertEqual(best(rules, {name: 4 for name in ranks}), contexts(rules, list(ranks)))
            self.assertEqual(in_best(rules, {name: 4 for name in ranks}), in_all(rules, list(ranks)))

    def test_clash_rank_and_firmness(self):
        found = {}
        for rules, ranks in some_ranked(400, seed=4):
            self.assertEqual(clash_rank(rules, ranks), slow_clash_rank(rules, ranks))
            right = {name: slow_firm(rules, ranks, name) for name in names_of(rules, ranks)}
            told = firms(rules, ranks)
            self.assertEqual(list(told.items()), list(right.items()))
            for name in right:
                self.assertEqual(firm(rules, ranks, name), right[name])
                found[right[name]] = found.get(right[name], 0) + 1
            self.assertEqual(firm(rules, ranks, "z"), 0)
        self.assertEqual(sorted(found), list(range(11)))
        self.assertGreater(min(found.values()), 5)

    def test_in_best(self):
        for rules, ranks in some_ranked(300, seed=5):
            there = [quick_held(rules, one) for one in slow_best(rules, ranks)]
            right = [name for name in names_of(rules, ranks) if there and all(name in one for one in there)]
            self.assertEqual(in_best(rules, ranks), right)

    def test_what_is_firm_is_in_all_best(self):
        for rules, ranks in some_ranked(200, seed=6):
            for name, number in firms(rules, ranks).items():
                if number:
                    self.assertIn(name, in_best(rules, ranks))


class Edges(Refusing):
    def test_no_ranks_and_no_rules(self):
        self.assertEqual((best([], {}), clash_rank([], {}), firms([], {}), in_best([], {})), ([()], 0, {}, []))
        self.assertEqual(firm([], {}, "a"), 0)
        rules = [Rule("a"), Rule("b", ["c"])]
        self.assertEqual((best(rules, {}), clash_rank(rules, {}), in_best(rules, {})), ([()], 0, ["a"]))
        self.assertEqual(firms(rules, {}), {"a": 10, "b": 0, "c": 0})
        self.assertEqual((best([], {"b": 1, "a": 9}), in_best([], {"b": 1, "a": 9})), ([("a", "b")], ["a", "b"]))
        self.assertEqual(firms([], {"b": 1, "a": 9}), {"a": 9, "b": 1})

    def test_no_set_is_sound(self):
        for rules in ([Rule(None), Rule("a")], [Rule("a"), Rule(None, ["a"])]):
            for ranks in ({}, {"b": 9, "a": 1}, {"b": 5}):
                self.assertEqual((best(rules, ranks), clash_rank(rules, ranks), in_best(rules, ranks)), ([], 10, []))
                self.assertEqual(firms(rules, ranks), {name: 0 for name in names_of(rules, ranks)})
                self.assertEqual(firm(rules, ranks, "a"), 0)

    def test_ranks_1_and_9_and_cuts_1_and_10(self):
        ranks = {"a": 1, "b": 9}
        self.assertEqual([cut(ranks, least) for least in (1, 2, 9, 10)], [("a", "b"), ("b",), ("b",), ()])
        self.assertEqual((firm([], ranks, "a"), firm([], ranks, "b"), firm([Rule("a")], ranks, "a")), (1, 9, 10))
        self.assertEqual((clash_rank([Rule(None, ["a"])], ranks), clash_rank([Rule(None, ["b"])], ranks)), (1, 9))
        self.assertEqual((firm([Rule(None, ["a"])], ranks, "a"), firm([Rule(None, ["a"])], ranks, "b")), (0, 9))
        self.assertEqual(firm([Rule(None, ["b"]), Rule("c")], ranks, "c"), 10)
        self.assertEqual(firm([Rule(None, ["b"])], ranks, "a"), 0)

    def test_a_clash_of_the_same_rank_as_the_name(self):
        rules = [Rule(None, ["a", "b"])]
        self.assertEqual(firms(rules, {"a": 5, "b": 5, "c": 5, "d": 6}), {"a": 0, "b": 0, "c": 0, "d": 6})

    def test_ten_and_eleven_ranked_names(self):
        ranks = {letter: at % 9 + 1 for at, letter in enumerate(LETTERS[:10])}
        for rules in ([], many_rules(), many_rules() + [Rule(None, ["r"])]):
            self.assertEqual(best(rules, ranks), slow_best(rules, ranks))
            self.assertEqual(clash_rank(rules, ranks), slow_clash_rank(rules, ranks))
        self.assertEqual(cut(ranks, 1), tuple(LETTERS[:10]))
        for call, good, _ in CALLS:
            self.refused(BadRanks, call, **{**good, "ranks": {**ranks, "k": 5}})

    def test_24_and_25_names(self):
        for call, good, _ in CALLS[1:]:
            call(**{**good, "rules": base_with(24), "ranks": {"a": 5, "x": 1}})
            call(**{**good, "rules": base_with(14), "ranks": {letter: 5 for letter in LETTERS[14:24]}})
            self.refused(BadRanks, call, **{**good, "rules": base_with(24), "ranks": {"y": 5}})
            self.refused(BadRanks, call, **{**good, "rules": base_with(24), "ranks": {"a": 5, "z": 1}})
            self.refused(BadRanks, call, **{**good, "rules": base_with(15), "ranks": dict.fromkeys(LETTERS[15:25], 5)})
        self.assertEqual(in_best(base_with(24), {"x": 5}), ["x"])


class Wrong(Refusing):
    def test_wrong_things_in_each_place(self):
        self.all_of_it(CALLS)

    def test_several_wrong_at_once(self):
        wrong = [Rule("a", unless=["b"])]
        self.refused(BadRules, firm, [wrong], {"a": True}, 1)
        self.refused(NotPlain, firm, wrong, {"a": True}, 1)
        self.refused(BadRanks, firm, [], {"a": True}, 1)
        self.refused(BadRanks, firm, base_with(24), {"z": 1}, 1)
        self.refused(BadName, firm, [], {"a": 1}, 1)
        self.refused(BadRanks, cut, {"a": True}, 11)


if __name__ == "__main__":
    unittest.main()

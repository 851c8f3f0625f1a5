"""[2] (d), [13], [80] to [83]: kernels, remainders, what is given up and what is taken on."""

import copy
import itertools
import random
import unittest

from groundlots import change as file
from groundlots.change import BEST, EACH, changes, given_up, kernels, remainders, taken_on
from groundlots.contexts import contexts
from groundlots.errors import (BadName, BadNames, BadRanks, BadRules, BadStep, BadWay, Contrary, Needed, NotPlain,
                               TooMany)
from groundlots.labels import contradictions
from groundlots.lots import hits
from groundlots.ranks import best, firm
from groundlots.rules import Rule
from refusing import WRONG, Refusing
from things import LETTERS, LISTS, NAMES, NEITHER, NO_RANK, base_with
from walks import (in_lots, is_held, is_sound, many_rules, names_of, slow_given_up, slow_kernels, slow_remainders,
                   slow_taken_on, some_bases, some_of, some_ranks)

BASE = {"rules": [Rule("c", ["a"]), Rule("c", ["b"]), Rule(None, ["a", "b"])], "base": ["b", "a"], "name": "c"}
RANKED = {"rules": BASE["rules"], "ranks": {"b": 3, "a": 7}, "name": "c"}
KINDS = {"rules": "plain", "base": "may", "name": "goal"}
CALLS = [
    (kernels, BASE, KINDS), (remainders, BASE, KINDS),
    (given_up, RANKED, {"rules": "plain", "ranks": "ranks", "name": "goal"}),
    (taken_on, RANKED, {"rules": "plain", "ranks": "ranks", "name": "name"}),
    (taken_on, {**RANKED, "rank": 9}, {"rules": "plain", "ranks": "ranks", "name": "name", "rank": "rank"}),
    (changes, {"rules": BASE["rules"], "ranks": {"b": 3, "a": 7}, "steps": [("off", "c")]},
     {"rules": "plain", "ranks": "ranks"}),
]

# None of these is a step.
NO_STEPS = NEITHER + NAMES + LISTS + [
    "off", "on", ("off",), ("on",), ("off", "a", 5), ("on", "a"), ("on", None, 5), ("on", "a", 5, 5),
    ("off", None, None), ["off", "a"], ["on", "a", 5], ["off", None], ("on", "a", None), ("Off", "a"),
    ("ON", "a", 5), (None, "a"),
    ("a", "off"), ("of", "a"), ("tell", ("rule", "a", (), ())), (("off", "a"),), {"off": "a"}, (True, "a"), ([], "a"),
    (Rule("a"), "a"), (Rule("a"), "a", 5), ({}, "a", 5),
] + [("off", thing) for thing in NEITHER + LISTS if thing is not None] + [
    ("on", thing, 5) for thing in NEITHER + LISTS] + [("on", "a", thing) for thing in NO_RANK]

NO_WAYS = NEITHER + NAMES + LISTS + [
    "Each", "BEST", "each ", "best\n", "each best", ["each"], ("best",), {"each": "best"},
]


def some_ranked(many, **more):
    """Small bases with ranks of names, some of which stand in no rule."""
    chance = random.Random(80)
    for rules in some_bases(many // 3, nevers=3, **more):
        yield rules, some_ranks(chance, "abcdf")
    # Where no body is empty, more is held by some names alone.
    for rules in some_bases(many - many // 3, nevers=3, sizes=(1, 1, 2, 2, 3), **more):
        yield rules, {**some_ranks(chance, "abcdefg"), "h": chance.randint(1, 9)}
    # Where many sets bear one name, what is given up of one may save another.
    for _ in range(many // 3):
        rules = [Rule(chance.choice(("x", None)), chance.sample("abcdef", chance.choice((2, 2, 3)))) for _ in range(8)]
        yield rules, {name: chance.randint(1, 9) for name in chance.sample("abcdef", 6)}


def goals(rules, names):
    """None, and each name that stands there, and one that doesn't."""
    return [None] + names_of(rules, names) + ["z"]


class Ordinary(Refusing):
    def test_where_these_are_defined(self):
        for call in (kernels, remainders, given_up, taken_on, changes):
            self.assertEqual(call.__module__, file.__name__)

    def test_the_two_ways(self):
        self.assertEqual((EACH, BEST), ("each", "best"))

    def test_kernels_and_remainders(self):
        rules = [Rule("wet", ["rain", "out"]), Rule("wet", ["hose"]), Rule(None, ["hose", "rain"])]
        base = ["rain", "out", "hose", "cold"]
        self.assertEqual(kernels(rules, base, "wet"), [("hose",), ("out", "rain")])
        self.assertEqual(remainders(rules, base, "wet"), [("cold", "out"), ("cold", "rain")])
        self.assertEqual(kernels(rules, base, None), [("hose", "rain")])
        self.assertEqual(remainders(rules, base, None), [("cold", "hose", "out"), ("cold", "out", "rain")])
        self.assertEqual((kernels(rules, base, "dry"), remainders(rules, base, "dry")), ([], [tuple(sorted(base))]))

    def test_sound_or_not(self):
        rules = [Rule("c", ["a", "b"]), Rule(None, ["a", "b"])]
        self.assertEqual((kernels(rules, ["a", "b"], "c"), remainders(rules, ["a", "b"], "c")),
                         ([("a", "b")], [("a",), ("b",)]))
        self.assertEqual(kernels([Rule(None), Rule("c", ["a"])], ["a"], "c"), [("a",)])
        self.assertEqual(remainders([Rule(None), Rule("c", ["a"])], ["a", "b"], "c"), [("b",)])

    def test_given_up(self):
        rules = [Rule("wet", ["rain", "out"]), Rule("wet", ["hose", "out"]), Rule("wet", ["hose", "tap"])]
        ranks = {"rain": 4, "out": 6, "hose": 7, "tap": 8, "cold": 1}
        self.assertEqual(given_up(rules, ranks, "wet"), ("hose", "out", "rain"))
        # Where hose has gone for tap, out may stay.
        self.assertEqual(given_up(rules, ranks, "wet", way="best"), ("hose", "rain"))
        ranks["tap"] = 7
        self.assertEqual(given_up(rules, ranks, "wet"), ("hose", "out", "rain", "tap"))
        self.assertEqual(given_up(rules, ranks, "wet", way="best"), ("hose", "out", "rain", "tap"))
        self.assertEqual(given_up(rules, ranks, "cold"), ("cold",))
        self.assertEqual(given_up(rules, ranks, "dry"), ())
        self.assertEqual(given_up(rules, ranks, None, way=BEST), ())
        self.assertEqual(given_up([Rule(None, ["rain", "out"])], ranks, None), ("rain",))

    def test_taken_on(self):
        rules = [Rule(None, ["wet", "dry"]), Rule("wet", ["rain"]), Rule(None, ["rain", "out", "dry"])]
        self.assertEqual(taken_on(rules, {"dry": 3, "out": 8, "cold": 1}, "rain"), {"cold": 1, "out": 8, "rain": 5})
        self.assertEqual(taken_on(rules, {"out": 8, "wet": 2}, "rain", 9), {"out": 8, "rain": 9, "wet": 2})
        told = taken_on([Rule(None, ["a", "b", "c", "d"])], {"d": 2, "b": 2, "c": 3}, "a", rank=1)
        self.assertEqual(told, {"a": 1, "c": 3})

    def test_changes(self):
        rules = [Rule(None, ["wet", "dry"]), Rule("wet", ["rain"]), Rule("cold", ["wet"])]
        steps = [("on", "rain", 3), ("on", "dry", 4), ("off", "dry"), ("on", "wet", 9), ("on", "dry", 1), ("off", None),
                 ("off", "cold")]
        right = [{"rain": 3}, {"dry": 4}, {}, {"wet": 9}, {"dry": 1}, {"dry": 1}, {"dry": 1}]
        self.assertEqual(changes(rules, {}, steps), right)
        self.assertEqual(changes(rules, {"rain": 2, "dry": 2, "sun": 1}, [("off", None)]), [{"sun": 1}])

    def test_by_place_by_name_and_tuples(self):
        rules, ranks = tuple(BASE["rules"]), {"b": 3, "a": 7}
        self.assertEqual(kernels(name="c", base=("b", "a"), rules=rules), [("a",), ("b",)])
        self.assertEqual(remainders(name="c", base=("b", "a"), rules=rules), [()])
        self.assertEqual(given_up(name="c", ranks=ranks, rules=rules, way="best"), ("a", "b"))
        self.assertEqual(taken_on(rank=9, name="b", ranks=ranks, rules=rules), {"b": 9})
        self.assertEqual(taken_on(rules, ranks, "b", 9), {"b": 9})
        self.assertEqual(changes(steps=(("off", "c"),), ranks=ranks, rules=rules), [{}])
        with self.assertRaises(TypeError):
            given_up(rules, ranks, "c", "best")

    def test_kinds_of_what_is_told(self):
        told = [kernels(**BASE), remainders(**BASE), changes([], {}, [])]
        self.assertEqual([type(one) for one in told], [list, list, list])
        self.assertEqual([type(one) for one in kernels(**BASE) + remainders(**BASE)], [tuple, tuple, tuple])
        self.assertEqual([type(given_up(**RANKED, way=way)) for way in (EACH, BEST)], [tuple, tuple])
        self.assertEqual(type(taken_on(**RANKED)), dict)
        self.assertEqual(list(taken_on([], {"c": 1, "a": 2}, "b")), ["a", "b", "c"])
        told = changes([], {"c": 1, "a": 2}, [("on", "b", 3), ("off", "c"), ("off", "d"), ("off", None)])
        self.assertEqual([list(one) for one in told], [["a", "b", "c"], ["a", "b"], ["a", "b"], ["a", "b"]])

    def test_new_lists_and_dicts_each_time(self):
        for call, good, _ in CALLS:
            before = copy.deepcopy((good, call(**good)))
            told = call(**good)
            if not isinstance(told, tuple):
                told.clear()
            self.assertEqual((good, call(**good)), before)
        told = changes([], {"a": 1}, [("off", "b"), ("off", "b")])
        told[0].clear()
        self.assertEqual(told, [{}, {"a": 1}])
        self.assertEqual(list(RANKED["ranks"]), ["b", "a"])


class AgainstAllSets(Refusing):
    def test_kernels_and_remainders(self):
        for rules, ranks in some_ranked(200):
            base = list(ranks)
            for name in goals(rules, base):
                self.assertEqual(kernels(rules, base, name), slow_kernels(rules, base, name))
                self.assertEqual(remainders(rules, base, name), slow_remainders(rules, base, name))

    def test_each_led_to_the_other(self):
        for rules, ranks in some_ranked(150, seed=2):
            for name in goals(rules, ranks):
                least, rest = kernels(rules, list(ranks), name), remainders(rules, list(ranks), name)
                self.assertEqual(rest, in_lots(set(ranks) - set(one) for one in hits(least)))
                self.assertEqual(least, hits([sorted(set(ranks) - set(one)) for one in rest]))
            self.assertEqual(kernels(rules, list(ranks), None), contradictions(rules, list(ranks)))
            self.assertEqual(remainders(rules, list(ranks), None), contexts(rules, list(ranks)))

    def test_given_up(self):
        found = {"needed": 0, "nothing": 0, "less": 0, "one": 0, "more": 0}
        for rules, ranks in some_ranked(300, seed=3):
            for name in goals(rules, ranks):
                right = [slow_given_up(rules, ranks, name, way) for way in ("each", "best")]
                if right[0] is None:
                    found["needed"] += 1
                    for way in ("each", "best"):
                        self.refused(Needed, given_up, rules, ranks, name, way=way)
                    continue
                told = [given_up(rules, ranks, name, way=way) for way in ("each", "best")]
                self.assertEqual(told, right)
                self.assertEqual(given_up(rules, ranks, name), right[0])
                found["less"] += right[0] != right[1]
                found["nothing" if not right[0] else "one" if len(right[0]) == 1 else "more"] += 1
        self.assertGreater(min(found.values()), 50)

    def test_what_is_told_of_what_is_given_up(self):
        for rules, ranks in some_ranked(200, seed=4):
            for name in goals(rules, ranks):
                if is_held(rules, (), name):
                    continue
                least = slow_kernels(rules, ranks, name)
                for way in (EACH, BEST):
                    gone = given_up(rules, ranks, name, way=way)
                    self.assertEqual(gone == (), not is_held(rules, list(ranks), name))
                    self.assertFalse(is_held(rules, [one for one in ranks if one not in gone], name))
                for one in given_up(rules, ranks, name):
                    self.assertTrue(any(one in some and all(ranks[other] >= ranks[one] for other in some)
                                        for some in least))

    def test_of_a_clash_best_keeps_what_is_in_all_best_contexts(self):
        for rules, ranks in some_ranked(150, seed=5):
            if is_sound(rules, ()):
                stand = best(rules, ranks)
                kept = sorted(name for name in ranks if all(name in one for one in stand))
                self.assertEqual(sorted(set(ranks) - set(given_up(rules, ranks, None, way=BEST))), kept)

    def test_taken_on(self):
        found = {"contrary": 0, "nothing": 0, "less": 0, "had": 0}
        for rules, ranks in some_ranked(400, seed=6):
            for name, rank in zip(goals(rules, ranks)[1:], itertools.cycle((1, 9, 5, 3))):
                right = slow_taken_on(rules, ranks, name, rank)
                if right is None:
                    found["contrary"] += 1
                    self.refused(Contrary, taken_on, rules, ranks, name, rank)
                    continue
                told = taken_on(rules, ranks, name, rank)
                self.assertEqual(list(told.items()), list(right.items()))
                self.assertEqual(told[name], rank)
                self.assertTrue(is_sound(rules, list(told)))
                if is_sound(rules, [*ranks, name]):
                    self.assertEqual(told, {**ranks, name: rank})
                found["nothing" if told == {**ranks, name: rank} else "less"] += 1
                found["had"] += name in ranks and told != {**ranks, name: rank}
        self.assertGreater(min(found.values()), 50)

    def test_changes(self):
        chance = random.Random(83)
        found = {"needed": 0, "contrary": 0, "all": 0}
        for rules, ranks in some_ranked(400, seed=7):
            rules = rules + [Rule(chance.choice("abx"))] * chance.choice((0, 0, 1))
            names = goals(rules, ranks)
            steps = [("off", chance.choice(names)) if chance.random() < 0.5 else
                     ("on", chance.choice(names[1:]), chance.randint(1, 9)) for _ in range(chance.randrange(6))]
            now, right, refusal = ranks, [], None
            for step in steps:
                if step[0] == "off":
                    gone = slow_given_up(rules, now, step[1], "each")
                    refusal = Needed if gone is None else None
                    now = None if gone is None else {one: now[one] for one in sorted(now) if one not in gone}
                else:
                    now = slow_taken_on(rules, now, step[1], step[2])
                    refusal = Contrary if now is None else None
                if refusal:
                    break
                right.append(now)
            found["needed" if refusal is Needed else "contrary" if refusal else "all"] += 1
            if refusal:
                self.refused(refusal, changes, rules, ranks, steps)
            else:
                told = changes(rules, ranks, steps)
                self.assertEqual([list(one.items()) for one in told], [list(one.items()) for one in right])
        self.assertGreater(min(found.values()), 20)


class Edges(Refusing):
    def test_nothing_at_all(self):
        self.assertEqual((kernels([], [], None), remainders([], [], None)), ([], [()]))
        self.assertEqual((kernels([], [], "a"), remainders([], [], "a")), ([], [()]))
        self.assertEqual([given_up([], {}, name, way=way) for name in ("a", None) for way in (EACH, BEST)], [()] * 4)
        self.assertEqual((taken_on([], {}, "a"), taken_on([], {}, "a", 9)), ({"a": 5}, {"a": 9}))
        self.assertEqual((changes([], {}, []), changes([], {"a": 1}, ())), ([], []))

    def test_a_name_that_is_held_without_any_grounds(self):
        rules = [Rule("a", ["b"]), Rule("b"), Rule("c", ["d"])]
        self.assertEqual((kernels(rules, ["a", "d"], "a"), remainders(rules, ["a", "d"], "a")), ([()], []))
        for ranks in ({}, {"a": 1, "d": 9}):
            for way in (EACH, BEST):
                self.refused(Needed, given_up, rules, ranks, "a", way=way)
                self.refused(Needed, given_up, rules + [Rule(None, ["b"])], ranks, None, way=way)
        self.assertEqual(given_up(rules, {"a": 1, "d": 9}, "c"), ("d",))
        self.assertEqual(given_up(rules + [Rule(None)], {"a": 1, "d": 9}, "c", way=BEST), ("d",))

    def test_a_name_that_alone_is_not_sound(self):
        for rules in ([Rule(None, ["a"])], [Rule("b", ["a"]), Rule(None, ["b"])], [Rule(None)],
                      [Rule("b"), Rule(None, ["b"])], [Rule("b"), Rule(None, ["a", "b"])]):
            for ranks in ({}, {"a": 1}, {"d": 9}):
                self.refused(Contrary, taken_on, rules, ranks, "a")
        # What stands in the way of others isn't in the way of it.
        self.assertEqual(taken_on([Rule(None, ["b"])], {"b": 9, "c": 1}, "a"), {"a": 5, "c": 1})

    def test_a_name_that_had_a_rank(self):
        rules = [Rule(None, ["a", "b", "c"])]
        ranks = {"a": 1, "b": 4, "c": 7}
        # By its own old rank a would be the lowest of all.
        self.assertEqual(taken_on(rules, ranks, "a", 1), {"a": 1, "c": 7})
        self.assertEqual(taken_on(rules, ranks, "b"), {"b": 5, "c": 7})
        self.assertEqual(taken_on(rules, ranks, "c", 9), {"b": 4, "c": 9})
        self.assertEqual(taken_on([], ranks, "c", 2), {"a": 1, "b": 4, "c": 2})
        self.assertEqual(firm([], taken_on([], ranks, "c", 2), "c"), 2)

    def test_ranks_1_and_9(self):
        self.assertEqual(given_up([Rule(None, ["a", "b"])], {"a": 1, "b": 9}, None), ("a",))
        self.assertEqual(given_up([Rule(None, ["a", "b"])], {"a": 1, "b": 9}, None, way=BEST), ("a",))
        self.assertEqual(taken_on([], {}, "a", 1), {"a": 1})
        self.assertEqual(changes([], {}, [("on", "a", 1), ("on", "b", 9)]), [{"a": 1}, {"a": 1, "b": 9}])

    def test_ten_and_eleven_names(self):
        names = list(LETTERS[:10])
        ranks = {letter: at % 9 + 1 for at, letter in enumerate(names)}
        for name in ("r", "p", None):
            rules = many_rules() + [Rule(None, ["r"])]
            self.assertEqual(kernels(rules, names, name), slow_kernels(rules, names, name))
            self.assertEqual(remainders(rules, names, name), slow_remainders(rules, names, name))
            for way in ("each", "best"):
                self.assertEqual(given_up(rules, ranks, name, way=way), slow_given_up(rules, ranks, name, way))
        for call in (kernels, remainders):
            self.refused(BadNames, call, [], names + ["k"], "a")
        self.assertEqual(taken_on(rules, ranks, "j", 9), slow_taken_on(rules, ranks, "j", 9))
        self.refused(TooMany, taken_on, [], ranks, "k")
        self.refused(TooMany, taken_on, [Rule(None, ["a", "k"])], ranks, "k")
        del ranks["a"]
        self.assertEqual(taken_on([], ranks, "k"), {**ranks, "k": 5})
        self.refused(TooMany, changes, [], ranks, [("on", "k", 1), ("on", "l", 1)])
        told = changes([], ranks, [("on", "k", 1), ("off", "k"), ("on", "l", 1)])
        self.assertEqual(told[-1], {**ranks, "l": 1})

    def test_24_and_25_names(self):
        rules = base_with(24)
        self.assertEqual(kernels(rules, ["a", "x"], "x"), [("x",)])
        self.assertEqual(remainders(base_with(14), list(LETTERS[14:24]), None), [tuple(LETTERS[14:24])])
        for call in (kernels, remainders):
            self.refused(BadNames, call, rules, ["y"], "a")
            self.refused(BadNames, call, base_with(15), list(LETTERS[15:25]), "a")
        for call, more in ((given_up, {"name": "a"}), (taken_on, {"name": "a"}), (changes, {"steps": []})):
            call(rules=rules, ranks={"a": 1, "x": 2}, **more)
            self.refused(BadRanks, call, rules=rules, ranks={"y": 1}, **more)
        self.assertEqual(given_up(rules, {"a": 1}, "y"), ())
        self.assertEqual(kernels(rules, ["a"], "y"), [])
        self.assertEqual(taken_on(rules, {"a": 1}, "x"), {"a": 1, "x": 5})
        self.refused(TooMany, taken_on, rules, {"a": 1}, "y")
        self.refused(TooMany, taken_on, rules, {}, "y")
        self.refused(TooMany, taken_on, base_with(23), {"x": 1}, "y")
        self.assertEqual(taken_on(base_with(23), {}, "y"), {"y": 5})
        self.refused(TooMany, changes, rules, {}, [("off", "y"), ("on", "y", 1)])

    def test_contrary_comes_ahead_of_too_many(self):
        ranks = dict.fromkeys(LETTERS[:10], 5)
        self.refused(Contrary, taken_on, [Rule(None, ["k"])], ranks, "k")
        self.refused(Contrary, taken_on, [Rule(None)], ranks, "k")
        self.refused(Contrary, taken_on, base_with(24) + [Rule(None)], {}, "y")


class Ways(Refusing):
    def test_wrong_ways(self):
        for way in NO_WAYS:
            self.refused(BadWay, given_up, [Rule("c", ["a"])], {"a": 1}, "c", way=way)

    def test_each_is_the_way_that_is_not_told(self):
        rules, ranks = [Rule("c", ["a", "b"]), Rule("c", ["b", "d"])], {"a": 1, "b": 2, "d": 3}
        self.assertEqual(given_up(rules, ranks, "c"), ("a", "b"))
        self.assertEqual(given_up(rules, ranks, "c", way="each"), ("a", "b"))
        self.assertEqual(given_up(rules, ranks, "c", way="best"), ("b",))

    def test_a_wrong_way_comes_behind_the_arguments_ahead_and_ahead_of_needed(self):
        for name, kind in (("rules", "plain"), ("ranks", "ranks"), ("name", "goal")):
            for thing, refusal in WRONG[kind]:
                self.refused(refusal, given_up, **{**RANKED, name: thing}, way="none")
        self.refused(BadWay, given_up, [Rule("a")], {}, "a", way="none")
        self.refused(BadWay, given_up, [Rule(None)], {}, None, way=None)


class Steps(Refusing):
    def step_refused(self, at, steps, rules=(), ranks=()):
        told = self.refused(BadStep, changes, list(rules), dict(ranks), steps)
        self.assertEqual((told.at, type(told.at)), (at, int), steps)

    def test_no_list(self):
        for steps in NEITHER + NAMES:
            if not isinstance(steps, (list, tuple)):
                self.step_refused(0, steps)
        self.step_refused(0, {0: ("off", "a")})
        self.step_refused(0, ("off", "a"))

    def test_wrong_steps(self):
        good = ("off", None)
        for step in NO_STEPS:
            self.step_refused(0, [step])
            self.step_refused(0, (step, good, step))
            self.step_refused(2, [good, ("on", "a", 9), step, good])
            self.step_refused(19, [good] * 19 + [step])

    def test_20_and_21_steps(self):
        steps = [("on", "a", at % 9 + 1) for at in range(20)]
        self.assertEqual(changes([], {}, steps), [{"a": at % 9 + 1} for at in range(20)])
        self.step_refused(20, steps + [("off", "a")])
        self.step_refused(20, steps * 5)
        for step in NO_STEPS:
            self.step_refused(20, steps + [step])
            self.step_refused(7, steps[:7] + [step] + steps)
            self.step_refused(19, steps[:19] + [step] + steps)

    def test_a_wrong_step_comes_ahead_of_all_steps(self):
        rules = [Rule("a"), Rule(None, ["b"])]
        for first in (("off", "a"), ("on", "b", 5)):
            self.step_refused(1, [first, ("off", "A")], rules)
            self.step_refused(20, [first] * 21, rules)

    def test_the_first_step_at_which_one_is_due(self):
        rules = [Rule("a"), Rule(None, ["b"])]
        ranks = dict.fromkeys(LETTERS[2:12], 5)
        self.refused(Needed, changes, rules, ranks, [("off", "c"), ("off", "a"), ("on", "b", 5), ("on", "z", 5)])
        self.refused(Contrary, changes, rules, ranks, [("off", "z"), ("on", "b", 5), ("on", "z", 5), ("off", "a")])
        self.refused(TooMany, changes, rules, ranks, [("on", "z", 5), ("off", "a"), ("on", "b", 5)])
        self.assertEqual(len(changes(rules, ranks, [("off", "c"), ("on", "z", 5)])[1]), 10)


class Wrong(Refusing):
    def test_wrong_things_in_each_place(self):
        self.all_of_it(CALLS)

    def test_wrong_steps_come_last(self):
        self.refused(BadRules, changes, None, None, None)
        self.refused(NotPlain, changes, [Rule("a", unless=["b"])], {"a": 0}, None)
        self.refused(BadRanks, changes, [], {"a": 0}, None)
        self.refused(BadRanks, changes, [], {"a": True}, [("off", 1)])

    def test_several_wrong_at_once(self):
        self.refused(BadNames, kernels, [], ["a", "a"], 1)
        self.refused(BadName, kernels, [Rule(None)], ["a"], 1)
        self.refused(BadRanks, taken_on, [Rule(None)], {"a": 1}, "a", 0)
        self.refused(BadName, taken_on, [Rule(None)], {"a": 1}, None, 0)
        self.refused(BadName, taken_on, [Rule(None)], {"a": 1}, "not", True)


if __name__ == "__main__":
    unittest.main()

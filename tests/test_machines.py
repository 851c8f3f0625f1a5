"""[2] (f), [3], [4] and [110] to [112]: machines, what is broken of them, and by what share."""

import copy
import math
import random
import unittest
from fractions import Fraction

from groundlots import machines as file
from groundlots.contexts import repairs
from groundlots.errors import (BadName, BadNames, BadParts, BadRules, Contrary, NotPlain, NotThere, TooMany, Twice)
from groundlots.machines import Machine
from groundlots.rules import Rule
from groundlots.texts import read_base
from refusing import WRONG, Refusing
from things import LETTERS, LISTS, NAMES, NEITHER, base_with
from walks import all_sets, is_sound, quick_held, slow_repairs, some_bases, some_of

METHODS = "see unsee see_all seen diagnoses share shares look".split()
PARTS = {"pump": (1, 10), "lamp": (1, 4), "wire": (2, 5)}
RULES = read_base("light <- lamp, wire\nwater <- pump, wire\nwarm <- water, light\n")[0]

# None of these is a pair of numbers as a part has it.
NO_PAIRS = NEITHER + NAMES + LISTS + [
    (), (1,), (1, 2, 3), [1, 2], (0, 1), (0, 5), (1, 1), (5, 5), (2, 1), (-1, 2), (-2, -1), (1, 1001), (1000, 1001),
    (1000, 1000), (1, 10 ** 30), (True, 2), (1, True), (False, True), (1, None), (None, 2), ("1", "2"), (1, "2"),
    ((1, 2),), (1, (2,)), ([1], 2), {1: 2}, {"a": (1, 2)}, "12", ((1, 2), (1, 2)), (Rule("a"), 2), (1, Rule("a")),
]

# None of these is a dict of parts.
NO_PARTS = NEITHER + NAMES + LISTS + [{"a": pair} for pair in NO_PAIRS] + [
    {"a": (1, 2), "b": pair} for pair in NO_PAIRS] + [
    {thing: (1, 2)} for thing in NEITHER if isinstance(thing, (int, str, bool, type(None)))] + [
    {("a",): (1, 2)}, {(): (1, 2)}, {"a": (1, 2), "B": (1, 2)}, {"a": (1, 2), 1: (1, 2)}, [("a", (1, 2))],
    (("a", (1, 2)),), [{"a": (1, 2)}], dict.fromkeys(LETTERS[:9], (1, 2)), dict.fromkeys(LETTERS, (1, 2)),
]


def seen_rules(seen):
    """The rules that say what was seen."""
    return [Rule(name) if there else Rule(None, [name]) for name, there in seen.items()]


def slow_states(parts, rules):
    """The pairs of a sound set of parts and its weight."""
    found = []
    for one in all_sets(parts):
        if is_sound(rules, one):
            shares = [Fraction(*parts[part]) for part in sorted(parts)]
            weights = [1 - share if part in one else share for part, share in zip(sorted(parts), shares)]
            found.append((one, math.prod(weights)))
    return found


def slow_share(states, holds):
    """The share of the states of which something is so; None without any state."""
    total = sum(weight for _, weight in states)
    if not states:
        return None
    share = Fraction(sum(weight for one, weight in states if holds(one)), 1) / total
    return (share.numerator, share.denominator)


def slow_look(states, rules, names):
    """The pair that a look tells."""
    found = []
    for name in sorted(names):
        share = Fraction(*slow_share(states, lambda one: name in quick_held(rules, one)))
        if share not in (0, 1):
            found.append((abs(share - Fraction(1, 2)), name, (share.numerator, share.denominator)))
    return min(found)[1:] if found else None


def some_machines(many, seed=110):
    """Small machines, with what was seen of them."""
    chance = random.Random(seed)
    for rules in some_bases(many, names="abcdef", nevers=1, seed=seed, sizes=(1, 1, 2, 2, 3)):
        parts = {name: pair(chance) for name in some_of(chance, "abcghijk")[:5] + ["l"]}
        seen = {name: chance.random() < 0.5 for name in some_of(chance, "abcdefl")[:2]}
        yield parts, rules, seen


def pair(chance):
    most = chance.choice((2, 3, 10, 1000))
    return (chance.randint(1, most - 1), most)


def made(parts, rules, seen):
    machine = Machine(parts, rules)
    for name, there in seen.items():
        machine.see(name, there=there)
    return machine


def told_by(machine):
    """All that it tells."""
    found = [machine.seen(), machine.diagnoses()]
    try:
        found += [list(machine.shares().items()), machine.look(["light", "warm", "pump", "a", "b", "c"])]
    except Contrary:
        found.append("contrary")
    return found


class Ordinary(Refusing):
    def test_where_these_are_defined(self):
        self.assertEqual(Machine.__module__, file.__name__)
        for name in METHODS:
            self.assertIn(name, vars(Machine))

    def test_a_machine(self):
        machine = Machine(PARTS, RULES)
        self.assertEqual((machine.seen(), machine.diagnoses()), ({}, [()]))
        self.assertEqual(machine.shares(), {"lamp": (1, 4), "pump": (1, 10), "wire": (2, 5)})
        self.assertEqual(machine.look(["light", "water", "warm"]), ("water", (27, 50)))
        self.assertIsNone(machine.see("light", there=False))
        self.assertEqual((machine.seen(), machine.diagnoses()), ({"light": False}, [("lamp",), ("wire",)]))
        # Of light, 11 in 20 of the states are left; of these the wire is broken in 8, and the lamp in 5.
        self.assertEqual(machine.shares(), {"lamp": (5, 11), "pump": (1, 10), "wire": (8, 11)})
        self.assertEqual(machine.share("wire"), (8, 11))
        self.assertIsNone(machine.see("water"))
        # What was seen to be held is held, whatever is broken.
        self.assertEqual(machine.seen(), {"light": False, "water": True})
        self.assertEqual(machine.diagnoses(), [("lamp",), ("wire",)])
        self.assertIsNone(machine.unsee("light"))
        self.assertEqual(machine.seen(), {"water": True})
        self.assertIsNone(machine.see_all(["warm", "light"], there=False))
        self.assertEqual(list(machine.seen().items()), [("light", False), ("warm", False), ("water", True)])
        self.assertEqual(machine.look(["light", "water", "warm", "wire", "lamp"]), ("lamp", (6, 11)))

    def test_a_machine_that_may_not_be(self):
        machine = Machine({"a": (1, 2)}, [])
        machine.see_all(["b", "a"])
        self.assertEqual((machine.diagnoses(), machine.shares()), ([()], {"a": (1, 2)}))
        machine.unsee("a")
        machine.see("a", there=False)
        self.assertEqual((machine.diagnoses(), machine.shares()), ([("a",)], {"a": (1, 1)}))

    def test_by_name(self):
        machine = Machine(rules=tuple(RULES), parts=PARTS)
        machine.see(there=False, name="light")
        machine.unsee(name="light")
        machine.see_all(there=True, names=("light",))
        machine.see(name="warm")
        self.assertEqual(machine.seen(), {"light": True, "warm": True})
        self.assertEqual((machine.share(part="wire"), machine.look(names=("wire",))), ((2, 5), ("wire", (3, 5))))
        for call in (machine.see, machine.see_all):
            with self.assertRaises(TypeError):
                call("a" if call == machine.see else ["a"], False)

    def test_kinds_of_what_is_told(self):
        machine = Machine(PARTS, RULES)
        machine.see_all(["warm", "light"], there=False)
        self.assertEqual([type(one) for one in (machine.seen(), machine.diagnoses(), machine.shares())],
                         [dict, list, dict])
        self.assertEqual([type(one) for one in [*machine.diagnoses(), *machine.shares().values()]], [tuple] * 5)
        self.assertEqual([type(one) for one in machine.share("lamp")], [int, int])
        self.assertEqual([type(one) for one in machine.look(["lamp"])], [str, tuple])
        self.assertEqual([list(one) for one in (machine.seen(), machine.shares())],
                         [["light", "warm"], ["lamp", "pump", "wire"]])
        self.assertIs(machine.seen()["light"], False)

    def test_what_it_tells_and_is_handed_is_the_askers_own(self):
        parts, rules, names = dict(PARTS), list(RULES), ["warm"]
        machine = Machine(parts, rules)
        machine.see_all(names, there=False)
        before = told_by(machine)
        parts.clear()
        rules.clear()
        names.append("light")
        machine.seen().clear()
        machine.diagnoses().clear()
        machine.shares().clear()
        self.assertEqual(told_by(machine), before)
        self.assertEqual(PARTS, {"pump": (1, 10), "lamp": (1, 4), "wire": (2, 5)})


class AgainstAllSets(Refusing):
    def test_diagnoses(self):
        for parts, rules, seen in some_machines(300):
            told = made(parts, rules, seen).diagnoses()
            self.assertEqual(told, slow_repairs(rules + seen_rules(seen), list(parts)))
            self.assertEqual(told, repairs(rules + seen_rules(seen), list(parts)))

    def test_shares(self):
        found = {"none": 0, "ends": 0, "between": 0, "other": 0}
        for parts, rules, seen in some_machines(300, seed=2):
            machine = made(parts, rules, seen)
            states = slow_states(parts, rules + seen_rules(seen))
            if not states:
                found["none"] += 1
                self.refused(Contrary, machine.shares)
                for part in parts:
                    self.refused(Contrary, machine.share, part)
                continue
            told = machine.shares()
            self.assertEqual(list(told), sorted(parts))
            for part in parts:
                right = slow_share(states, lambda one: part not in one)
                self.assertEqual((machine.share(part), told[part]), (right, right))
                found["ends" if right in ((0, 1), (1, 1)) else "between"] += 1
                found["other"] += Fraction(*right) != Fraction(*parts[part])
        self.assertGreater(min(found.values()), 15)

    def test_looks(self):
        chance = random.Random(112)
        found = {"none": 0, "one": 0}
        for parts, rules, seen in some_machines(300, seed=3):
            machine = made(parts, rules, seen)
            states = slow_states(parts, rules + seen_rules(seen))
            names = some_of(chance, "abcdefghijklz")
            if not states:
                self.refused(Contrary, machine.look, names)
                continue
            right = slow_look(states, rules + seen_rules(seen), names)
            self.assertEqual(machine.look(names), right)
            found["one" if right else "none"] += 1
        self.assertGreater(min(found.values()), 30)

    def test_long_histories(self):
        for seed, (parts, rules, _) in enumerate(some_machines(40, seed=4)):
            chance = random.Random(seed)
            machine, seen = Machine(parts, rules), {}
            for _ in range(25):
                free = [name for name in "abcdefghz" if name not in seen]
                deed, there = chance.choice(("see", "unsee", "see_all")), chance.random() < 0.7
                if deed == "see" and free:
                    name = chance.choice(free)
                    seen[name] = there
                    machine.see(name, there=there)
                elif deed == "unsee" and seen:
                    name = chance.choice(sorted(seen))
                    del seen[name]
                    machine.unsee(name)
                elif deed == "see_all":
                    names = chance.sample("abcdefghz", chance.randrange(3))
                    if set(names) & set(seen):
                        self.refused(Twice, machine.see_all, names, there=there)
                    else:
                        machine.see_all(names, there=there)
                        seen.update(dict.fromkeys(names, there))
                self.assertEqual(list(machine.seen().items()), sorted(seen.items()))
                self.assertEqual(machine.diagnoses(), slow_repairs(rules + seen_rules(seen), list(parts)))


class Edges(Refusing):
    def test_1_and_8_parts(self):
        self.assertEqual(Machine({"a": (1, 3)}, []).shares(), {"a": (1, 3)})
        parts = {letter: (at, 9) for at, letter in enumerate(LETTERS[:8], start=1)}
        rules = [Rule("x", ["a", "b"]), Rule("x", ["c", "h"]), Rule("y", ["d", "e", "f", "g"]), Rule(None, ["x", "y"])]
        machine = Machine(parts, rules)
        states = slow_states(parts, rules)
        self.assertEqual(machine.diagnoses(), slow_repairs(rules, list(parts)))
        for part in parts:
            self.assertEqual(machine.share(part), slow_share(states, lambda one: part not in one))
        self.assertEqual(machine.look(list("xyabcdefgh")), slow_look(states, rules, "xyabcdefgh"))

    def test_0_and_9_parts(self):
        self.refused(BadParts, Machine, {}, [])
        self.refused(BadParts, Machine, dict.fromkeys(LETTERS[:9], (1, 2)), [])

    def test_the_least_and_the_greatest_shares(self):
        for share in ((1, 2), (1, 1000), (999, 1000), (499, 1000)):
            machine = Machine({"a": share}, [])
            self.assertEqual(machine.shares(), {"a": share})
            self.assertEqual(machine.look(["a"]), ("a", (share[1] - share[0], share[1])))
        self.assertEqual(Machine({"a": (500, 1000)}, []).share("a"), (1, 2))
        self.assertEqual(Machine({"a": (2, 4), "b": (30, 40)}, []).shares(), {"a": (1, 2), "b": (3, 4)})

    def test_great_numbers_are_exact(self):
        parts = {letter: (997 + at % 3, 1000) for at, letter in enumerate(LETTERS[:8])}
        rules = [Rule("x", list(LETTERS[at:at + 4])) for at in (0, 4)] + [Rule("y", ["a", "h"])]
        machine = made(parts, rules, {"x": False})
        states = slow_states(parts, rules + [Rule(None, ["x"])])
        for part in parts:
            self.assertEqual(machine.share(part), slow_share(states, lambda one: part not in one))
        self.assertEqual(machine.look(["y", "x"]), slow_look(states, rules, ["y", "x"]))

    def test_the_ends(self):
        machine = made({"a": (1, 2), "b": (1, 3), "c": (1, 4)}, [Rule(None, ["b"])], {"d": True})
        self.assertEqual(machine.shares(), {"a": (1, 2), "b": (1, 1), "c": (1, 4)})
        machine.see("a")
        # What was seen of a part says what is held, and not which part is whole.
        self.assertEqual((machine.share("a"), machine.diagnoses()), ((1, 2), [("b",)]))
        self.assertIsNone(machine.look(["a", "b", "d", "z"]))
        self.assertEqual(machine.look(["a", "b", "d", "z", "c"]), ("c", (3, 4)))
        machine = made({"a": (1, 2)}, [Rule("x", ["a"]), Rule(None, ["x"])], {})
        self.assertEqual((machine.shares(), machine.look(["a", "x"])), ({"a": (1, 1)}, None))
        machine = Machine({"a": (1, 2), "b": (1, 2)}, [Rule(None, ["a", "b"])])
        self.assertEqual(machine.shares(), {"a": (2, 3), "b": (2, 3)})

    def test_no_state(self):
        for rules, seen in (([Rule(None)], {}), ([], {"b": True}), ([Rule("b")], {"b": False})):
            machine = made({"a": (1, 2)}, rules + [Rule(None, ["b"])], seen)
            if machine.seen() == {}:
                machine.see("b", there=True)
            self.assertEqual(machine.diagnoses(), [])
            self.refused(Contrary, machine.shares)
            self.refused(Contrary, machine.share, "a")
            self.refused(Contrary, machine.look, ["a"])
            self.refused(Contrary, machine.look, [])
            # What the arguments are refused with comes ahead.
            self.assertEqual(self.refused(NotThere, machine.share, "b").name, "b")
            self.refused(BadNames, machine.look, ["a", "a"])

    def test_a_look_of_no_names(self):
        self.assertIsNone(Machine({"a": (1, 2)}, []).look([]))

    def test_ties(self):
        machine = Machine({"a": (1, 4), "b": (3, 4), "c": (1, 4)}, [Rule("x", ["a"]), Rule("y", ["b"])])
        self.assertEqual(machine.look(["y", "c", "b", "x"]), ("b", (1, 4)))
        self.assertEqual(machine.look(["x", "y"]), ("x", (3, 4)))
        self.assertEqual(machine.look(["y", "c"]), ("c", (3, 4)))
        machine = Machine({"a": (1, 3), "b": (2, 3), "c": (2, 5)}, [])
        self.assertEqual(machine.look(["b", "a", "c"]), ("c", (3, 5)))

    def test_24_and_25_names(self):
        Machine({"a": (1, 2), "x": (1, 2)}, base_with(24))
        self.refused(TooMany, Machine, {"y": (1, 2)}, base_with(24))
        self.refused(TooMany, Machine, dict.fromkeys(LETTERS[16:24], (1, 2)), base_with(16) + [Rule("y")])
        machine = Machine(dict.fromkeys(LETTERS[16:24], (1, 2)), base_with(15))
        self.assertIsNone(machine.see_all(["p", "a"]))
        before = told_by(machine)
        for there in (True, False):
            self.refused(TooMany, machine.see, "y", there=there)
            self.refused(TooMany, machine.see_all, ["b", "y"], there=there)
        self.assertEqual(told_by(machine), before)
        machine.unsee("p")
        machine.see("y")
        self.refused(TooMany, machine.see, "p")

    def test_40_and_41_rules(self):
        machine = Machine({"a": (1, 2)}, [Rule("a")] * 38)
        machine.see("b")
        machine.see("c", there=False)
        for there in (True, False):
            self.refused(TooMany, machine.see, "d", there=there)
        machine.unsee("b")
        self.refused(TooMany, machine.see_all, ["d", "e"])
        self.assertEqual(machine.seen(), {"c": False})
        machine.see_all(["d"])
        full = Machine({"a": (1, 2)}, [Rule("a")] * 40)
        self.refused(TooMany, full.see, "a")
        full.see_all([])


class Wrong(Refusing):
    def test_wrong_parts_and_rules(self):
        for thing in NO_PARTS:
            self.refused(BadParts, Machine, thing, RULES)
            self.refused(BadParts, Machine, parts=thing, rules=RULES)
            self.refused(BadParts, Machine, thing, None)
            self.refused(BadParts, Machine, thing, [Rule("a", unless=["b"])])
        for thing, refusal in WRONG["plain"]:
            self.refused(refusal, Machine, PARTS, thing)
            self.refused(refusal, Machine, parts=dict.fromkeys(LETTERS[16:24], (1, 2)), rules=thing)
        self.assertEqual({refusal for _, refusal in WRONG["plain"]}, {BadRules, NotPlain})

    def test_wrong_names(self):
        machine = made(PARTS, RULES, {"light": False})
        before = told_by(machine)
        for call, kind, more in ((machine.see, "name", {}), (machine.see, "name", {"there": False}),
                                 (machine.unsee, "name", {}), (machine.see_all, "names", {}),
                                 (machine.see_all, "names", {"there": False}), (machine.look, "names", {})):
            for thing, refusal in WRONG[kind]:
                self.refused(refusal, call, thing, **more)
                self.refused(refusal, call, **{kind: thing}, **more)
        self.assertEqual(told_by(machine), before)
        self.assertEqual({refusal for kind in ("name", "names") for _, refusal in WRONG[kind]}, {BadName, BadNames})

    def test_no_part(self):
        machine = Machine(PARTS, RULES)
        for thing in NEITHER + NAMES + LISTS + ["light", "warm", ("pump",), ["pump"], {"pump": (1, 10)}]:
            told = self.refused(NotThere, machine.share, thing)
            self.assertIs(type(told.name), type(thing))
            self.assertEqual(told.name, thing)
            self.refused(NotThere, machine.share, part=thing)

    def test_twice_and_not_there(self):
        machine = made(PARTS, RULES, {"light": False, "warm": True})
        before = copy.deepcopy(told_by(machine))
        for name in ("light", "warm"):
            for there in (True, False):
                self.assertEqual(self.refused(Twice, machine.see, name, there=there).name, name)
        for name in ("pump", "water", "z"):
            self.assertEqual(self.refused(NotThere, machine.unsee, name).name, name)
        self.assertEqual(told_by(machine), before)

    def test_of_all_none_is_seen_where_one_is_refused(self):
        machine = made(PARTS, RULES, {"light": False, "warm": True})
        before = told_by(machine)
        self.assertEqual(self.refused(Twice, machine.see_all, ["pump", "warm", "light"]).name, "warm")
        self.assertEqual(self.refused(Twice, machine.see_all, ["light", "warm"], there=False).name, "light")
        self.assertEqual(told_by(machine), before)
        machine.see_all(["pump", "wire"], there=False)
        self.assertEqual(machine.diagnoses(), [("pump", "wire")])

    def test_twice_comes_ahead_of_too_many(self):
        machine = made({"a": (1, 2)}, [Rule("a")] * 39, {"b": True})
        self.refused(Twice, machine.see, "b")
        self.refused(Twice, machine.see_all, ["b", "c"])
        self.refused(TooMany, machine.see_all, ["c", "b"])


if __name__ == "__main__":
    unittest.main()

"""[2] (c), [3], [4] and [50] to [54]: a network under deeds."""

import random
import unittest

from groundlots import network as file
from groundlots.errors import BadName, BadNames, BadRule, BadRules, NoDeed, NoLog, NoRule, NotPlain, NotThere, TooMany
from groundlots.errors import Twice
from groundlots.held import held
from groundlots.labels import contradictions, label, labels, lacking
from groundlots.network import Network, replayed
from groundlots.rules import Rule
from groundlots.telling import Telling
from refusing import WRONG, Refusing
from things import LETTERS, LISTS, NAMES, NEITHER, NO_BASES, NO_NUMBERS, NO_RULES, NOT_PLAIN, base_with
from walks import (all_sets, names_of, quick_held, slow_contradictions, slow_label, slow_labels, slow_lacking,
                   some_bases, some_of)

METHODS = ("tell drop rules back again log twin assume unassume may label labels contradictions lacking held touched"
           " jolted idle all_done").split()
RULES = [Rule("c", ["a"]), Rule("c", ["b"]), Rule(None, ["a", "b"]), Rule("d", ["c"])]
POOL = [Rule("c", ["a"]), Rule("c", ["b"]), Rule(None, ["a", "b"]), Rule("d", ["c"]), Rule("d", ["a", "b"]),
        Rule("e", ["d", "c"]), Rule("a", ["e"]), Rule(None, ["d", "e"]), Rule("b"), Rule(None, ["c", "e"]),
        Rule("e", ["c"]), Rule("x", ["y"]), Rule("c", ["a", "e"])]


def told_now(net):
    """All that it tells but of the last change, and of what can be taken back and done again."""
    names = names_of([rule for _, rule in net.rules()], [*net.may(), "z"])
    return {"rules": net.rules(), "may": net.may(), "log": net.log(), "labels": list(net.labels().items()),
            "label": [net.label(name) for name in names], "lacking": [net.lacking(name) for name in names],
            "contradictions": net.contradictions(), "idle": net.idle(), "held": net.held(net.may())}


def told_by(net):
    """All that it tells, also behind each taking back and doing again that it can do."""
    found = [told_now(net), net.touched(), net.jolted()]
    for turn in ("back", "again"):
        twin = net.twin()
        while True:
            try:
                getattr(twin, turn)()
            except NoDeed:
                break
            found.append((turn, twin.rules(), twin.may(), twin.log(), twin.touched(), twin.jolted()))
    return found


def slow_idle(pairs, may):
    """The numbers of the rules of which each alone may go."""
    def worth(rules):
        there = {name: sets for name, sets in slow_labels(rules, may).items() if sets}
        return there, slow_contradictions(rules, may)
    whole = worth([rule for _, rule in pairs])
    return [number for number, _ in pairs if worth([rule for one, rule in pairs if one != number]) == whole]


class Model:
    """What a network should tell, from a list of all that stood."""

    def __init__(self):
        self.stood = [((), 0, (), ())]
        self.at = 0
        self.ahead = None

    def now(self):
        return self.stood[self.at]

    def do(self, row, rules, last, may):
        self.ahead = self.now()
        self.stood[self.at + 1:] = [(rules, last, may, self.now()[3] + (row,))]
        self.at += 1

    def turn(self, by):
        self.ahead = self.now()
        self.at += by

    def changes(self):
        """The names that are touched, and whether it is jolted."""
        if self.ahead is None:
            return [], False
        then, now = [([rule for _, rule in rules], may) for rules, _, may, _ in (self.ahead, self.now())]
        old, new = slow_labels(*then), slow_labels(*now)
        touched = [name for name in sorted({*old, *new}) if old.get(name, []) != new.get(name, [])]
        return touched, slow_contradictions(*then) != slow_contradictions(*now)


def turn(chance, net, model):
    """Does one thing by chance to both; gives what it was, and what the network gave and should have given."""
    rules, last, may, _ = model.now()
    deed = chance.choice(("tell", "tell", "tell", "drop", "assume", "assume", "unassume", "back", "back", "again",
                          "again"))
    free = [name for name in "abefx" if name not in may]
    if deed == "tell" and len(rules) < 9:
        rule = chance.choice(POOL)
        model.do(("tell", rule.told()), rules + ((last + 1, rule),), last + 1, may)
        return deed, net.tell(rule), last + 1
    if deed == "drop" and rules:
        number, rule = chance.choice(rules)
        model.do(("drop", number), tuple(pair for pair in rules if pair[0] != number), last, may)
        return deed, net.drop(number), rule
    if deed == "assume" and free:
        name = chance.choice(free)
        model.do(("assume", name), rules, last, may + (name,))
        return deed, net.assume(name), None
    if deed == "unassume" and may:
        name = chance.choice(may)
        model.do(("unassume", name), rules, last, tuple(one for one in may if one != name))
        return deed, net.unassume(name), None
    if deed == "back" and model.at:
        model.turn(-1)
        return deed, net.back(), None
    if deed == "again" and model.at + 1 < len(model.stood):
        model.turn(1)
        return deed, net.again(), None
    return None, None, None


class Ordinary(Refusing):
    def test_where_these_are_defined(self):
        self.assertEqual(Network.__module__, file.__name__)
        self.assertEqual(replayed.__module__, file.__name__)
        self.assertTrue(issubclass(Network, Telling))
        for name in METHODS:
            self.assertIn(name, vars(Network))

    def test_a_short_history(self):
        net = Network(may=["b", "a"], rules=RULES)
        self.assertEqual(net.may(), ["a", "b"])
        self.assertEqual(net.rules(), list(zip([1, 2, 3, 4], RULES)))
        self.assertEqual(net.log(), [("assume", "b"), ("assume", "a")] + [("tell", rule.told()) for rule in RULES])
        self.assertEqual(net.label("d"), [("a",), ("b",)])
        self.assertEqual(net.contradictions(), [("a", "b")])
        self.assertEqual(net.lacking("d"), [()])
        self.assertEqual(net.held(["b"]), ["b", "c", "d"])
        self.assertEqual(list(net.labels()), ["a", "b", "c", "d"])
        self.assertEqual((net.touched(), net.jolted(), net.idle()), (["d"], False, []))
        self.assertEqual(net.drop(3), RULES[2])
        self.assertEqual((net.touched(), net.jolted(), net.contradictions()), ([], True, []))
        self.assertIsNone(net.unassume("a"))
        self.assertEqual((net.touched(), net.jolted(), net.idle()), (["a", "c", "d"], False, [1]))
        self.assertIsNone(net.assume("e"))
        self.assertEqual((net.may(), net.touched(), net.log()[-1]), (["b", "e"], ["e"], ("assume", "e")))
        self.assertEqual(net.tell(Rule("e", ["d"])), 5)
        self.assertEqual(net.label("e"), [("b",), ("e",)])
        self.assertIsNone(net.back())
        self.assertIsNone(net.back())
        self.assertEqual((net.may(), net.touched()), (["b"], ["e"]))
        self.assertIsNone(net.again())
        self.assertEqual((net.may(), net.touched()), (["b", "e"], ["e"]))

    def test_by_name(self):
        net = Network(rules=(), may=())
        self.assertEqual(net.tell(rule=Rule("b", ["a"])), 1)
        net.assume(name="a")
        self.assertEqual(net.label(name="b"), [("a",)])
        self.assertEqual(net.lacking(name="b"), [()])
        self.assertEqual(net.held(some=("a",)), ["a", "b"])
        net.unassume(name="a")
        self.assertEqual(net.drop(number=1), Rule("b", ["a"]))
        self.assertEqual(net.all_done(deeds=[("assume", "c")]), [None])
        self.assertEqual(replayed(log=net.log()).may(), ["c"])

    def test_may_and_rules_go_by_name_alone(self):
        with self.assertRaises(TypeError):
            Network([])

    def test_nothing_at_all(self):
        net = Network()
        self.assertEqual(told_by(net), [
            {"rules": [], "may": [], "log": [], "labels": [], "label": [[]], "lacking": [[()]], "contradictions": [],
             "idle": [], "held": []}, [], False])

    def test_kinds_of_what_is_told(self):
        net = Network(may=["b", "a"], rules=RULES)
        for told in (net.rules(), net.log(), net.may(), net.label("c"), net.contradictions(), net.lacking("c"),
                     net.held(["a"]), net.touched(), net.idle(), net.all_done([])):
            self.assertIs(type(told), list)
        self.assertIs(type(net.labels()), dict)
        self.assertIs(type(net.jolted()), bool)
        self.assertIs(type(net.twin()), Network)
        self.assertIs(type(replayed([])), Network)

    def test_what_it_tells_is_the_askers_own(self):
        may, rules = ["b", "a"], list(RULES)
        net = Network(may=may, rules=rules)
        before = told_by(net)
        may.append("f")
        rules.clear()
        for told in (net.rules(), net.log(), net.may(), net.label("c"), net.labels(), net.contradictions(),
                     net.lacking("c"), net.held(["a"]), net.touched(), net.idle()):
            told.clear()
        net.labels()["c"].clear()
        self.assertEqual(told_by(net), before)
        self.assertEqual(RULES[0], Rule("c", ["a"]))


class Touched(Refusing):
    def test_at_first_there_was_no_change(self):
        net = Network()
        self.assertEqual((net.touched(), net.jolted()), ([], False))
        net.all_done([])
        self.assertEqual((net.touched(), net.jolted()), ([], False))

    def test_the_deeds_by_which_it_was_made_are_deeds(self):
        self.assertEqual(Network(may=["b", "a"]).touched(), ["a"])
        self.assertEqual(Network(may=["a"], rules=[Rule("c", ["a"]), Rule("b", ["a"])]).touched(), ["b"])
        net = Network(may=["a"], rules=[Rule("b", ["a"]), Rule(None, ["b"])])
        self.assertEqual((net.touched(), net.jolted()), (["a", "b"], True))
        net.back()
        self.assertEqual((net.touched(), net.jolted()), (["a", "b"], True))

    def test_names_that_stand_no_more_or_only_now(self):
        net = Network(may=["a"], rules=[Rule("b", ["a"]), Rule("d", ["e"])])
        net.drop(1)
        self.assertEqual(net.touched(), ["b"])
        net.drop(2)
        self.assertEqual(net.touched(), [])
        net.unassume("a")
        self.assertEqual((net.touched(), net.labels()), (["a"], {}))
        net.back()
        self.assertEqual(net.touched(), ["a"])

    def test_a_clash_without_grounds(self):
        net = Network(may=["b", "a"], rules=[Rule("c")])
        net.tell(Rule(None))
        self.assertEqual((net.touched(), net.jolted(), net.contradictions()), (["a", "b", "c"], True, [()]))
        net.tell(Rule(None, ["a"]))
        self.assertEqual((net.touched(), net.jolted()), ([], False))
        self.assertEqual(net.idle(), [1, 3])

    def test_what_is_refused_and_what_only_tells_leave_it(self):
        net = Network(may=["a"], rules=[Rule("b", ["a"]), Rule(None, ["b"])])
        for call, things in ((net.tell, [1]), (net.drop, [9]), (net.assume, ["a"]), (net.unassume, ["b"]),
                             (net.again, []), (net.label, [1]), (net.held, [["b"]]), (net.all_done, [[("drop", 9)]]),
                             (net.all_done, [[("drop", 1), ("drop", 1)]]), (net.all_done, [None])):
            with self.assertRaises(ValueError):
                call(*things)
            self.assertEqual((net.touched(), net.jolted()), (["a", "b"], True))
        told_by(net)
        self.assertEqual((net.touched(), net.jolted()), (["a", "b"], True))


class Idle(Refusing):
    def test_against_slow_walks(self):
        chance = random.Random(53)
        for rules in some_bases(60, nevers=2):
            net = Network(may=some_of(chance, "abcdf"), rules=rules)
            self.assertEqual(net.idle(), slow_idle(net.rules(), net.may()))
            if net.idle():
                net.drop(net.idle()[0])
                self.assertEqual((net.touched(), net.jolted()), ([], False))

    def test_each_alone(self):
        net = Network(may=["a"], rules=[Rule("b", ["a"]), Rule("b", ["a"]), Rule("c", ["d"]), Rule(None, ["c"]),
                                        Rule("e", ["a"])])
        self.assertEqual(net.idle(), [1, 2, 3, 4])
        net.drop(1)
        self.assertEqual(net.idle(), [3, 4])
        net.back()
        net.tell(Rule("b", ["e"]))
        self.assertEqual(net.idle(), [1, 2, 3, 4, 6])


class Histories(Refusing):
    def as_the_model(self, net, model):
        """It tells what it should, by slow walks."""
        pairs, _, may, log = model.now()
        rules = [rule for _, rule in pairs]
        self.assertEqual((net.rules(), net.may(), net.log()), (list(pairs), sorted(may), list(log)))
        self.assertEqual((net.touched(), net.jolted()), model.changes())
        self.assertEqual(list(net.labels().items()), list(slow_labels(rules, may).items()))
        self.assertEqual(net.contradictions(), slow_contradictions(rules, may))

    def as_a_fresh_one(self, chance, net):
        """It tells what a fresh one does that is told the same in another order, but for the numbers."""
        pairs = net.rules()
        chance.shuffle(pairs)
        may = net.may()
        chance.shuffle(may)
        fresh = Network(may=may) if chance.random() < 0.5 else Network()
        for number in range(len(pairs)):
            self.assertEqual(fresh.tell(pairs[number][1]), number + 1)
        for name in may:
            if name not in fresh.may():
                fresh.assume(name)
        one, other = told_now(net), told_now(fresh)
        for kind in ("may", "labels", "label", "lacking", "contradictions", "held"):
            self.assertEqual(one[kind], other[kind], kind)
        self.assertEqual(one["idle"], sorted(pairs[number - 1][0] for number in other["idle"]))

    def test_long_histories(self):
        found = {}
        for seed in range(12):
            chance = random.Random(seed)
            net, model = Network(), Model()
            for _ in range(70):
                deed, given, right = turn(chance, net, model)
                found[deed] = found.get(deed, 0) + 1
                self.assertEqual(given, right)
                self.as_the_model(net, model)
                if chance.random() < 0.3:
                    self.as_a_fresh_one(chance, net)
                    pairs, _, may, log = model.now()
                    rules = [rule for _, rule in pairs]
                    self.assertEqual(net.idle(), slow_idle(pairs, may))
                    for name in names_of(rules, [*may, "z"]):
                        self.assertEqual(net.label(name), slow_label(rules, may, name))
                        self.assertEqual(net.lacking(name), slow_lacking(rules, may, name))
                    for some in all_sets(may):
                        self.assertEqual(net.held(some), quick_held(rules, some))
            self.assertEqual(told_now(replayed(net.log())), told_now(net))
        self.assertGreater(min(found[deed] for deed in ("tell", "drop", "assume", "unassume", "back", "again")), 30)

    def test_a_history_wholly_taken_back_and_done_again(self):
        chance = random.Random(51)
        net, model = Network(may=["x"], rules=POOL[:2]), Model()
        model.do(("assume", "x"), (), 0, ("x",))
        model.do(("tell", POOL[0].told()), ((1, POOL[0]),), 1, ("x",))
        model.do(("tell", POOL[1].told()), ((1, POOL[0]), (2, POOL[1])), 2, ("x",))
        for _ in range(40):
            turn(chance, net, model)
        whole = told_now(net)
        while model.at:
            net.back()
            model.turn(-1)
            self.as_the_model(net, model)
        self.refused(NoDeed, net.back)
        self.assertEqual(net.log(), [])
        while model.at + 1 < len(model.stood):
            net.again()
            model.turn(1)
            self.as_the_model(net, model)
        self.refused(NoDeed, net.again)
        while net.log() != whole["log"]:
            net.back()
        self.assertEqual(told_now(net), whole)

    def test_twins_by_turns(self):
        for seed in range(6):
            chance = random.Random(seed + 100)
            net, model = Network(), Model()
            for _ in range(25):
                turn(chance, net, model)
            twin, other = net.twin(), Model()
            other.stood, other.at, other.ahead = list(model.stood), model.at, model.ahead
            self.assertEqual(told_by(twin), told_by(net))
            pairs = [(net, model), (twin, other)]
            for _ in range(40):
                turn(chance, *chance.choice(pairs))
                for pair in pairs:
                    self.as_the_model(*pair)

    def test_nothing_can_be_done_again_behind_another_deed(self):
        for deed in (lambda one: one.tell(Rule("z")), lambda one: one.drop(1), lambda one: one.assume("z"),
                     lambda one: one.unassume("a"), lambda one: one.all_done([("drop", 1)])):
            net = Network(may=["b", "a"], rules=RULES)
            net.back()
            deed(net)
            self.refused(NoDeed, net.again)
        net = Network(may=["b", "a"], rules=RULES)
        net.back()
        net.all_done([])
        net.again()
        self.assertEqual(net.rules()[-1], (4, RULES[3]))

    def test_as_stage_4_tells(self):
        for rules in some_bases(40, seed=9):
            net = Network(may=["b", "d", "a"], rules=rules)
            self.assertEqual(net.labels(), labels(rules, ["a", "b", "d"]))
            self.assertEqual(net.contradictions(), contradictions(rules, ["a", "b", "d"]))
            for name in ("a", "e", "z"):
                self.assertEqual(net.label(name), label(rules, ["a", "b", "d"], name))
                self.assertEqual(net.lacking(name), lacking(rules, ["a", "b", "d"], name))
            self.assertEqual(net.held(["d", "a"]), held(rules, ["a", "d"]))


class Making(Refusing):
    def test_what_is_no_list_of_names(self):
        for thing, refusal in WRONG["names"]:
            self.refused(refusal, Network, may=thing)
            self.refused(BadNames, Network, may=thing, rules=[1])
            self.refused(BadNames, Network, rules=NOT_PLAIN[0], may=thing)

    def test_more_than_ten_names(self):
        self.assertEqual(Network(may=list(LETTERS[:10])).may(), list(LETTERS[:10]))
        for many in (11, 12, 24):
            self.refused(TooMany, Network, may=list(LETTERS[:many]))
            self.refused(TooMany, Network, may=list(LETTERS[:many]), rules=None)
        self.refused(BadNames, Network, may=list(LETTERS[:25]))

    def test_what_is_no_base_of_plain_rules(self):
        for thing in NO_BASES:
            self.refused(BadRules, Network, rules=thing)
            self.refused(BadRules, Network, rules=thing, may=list(LETTERS[:10]))
        for thing in NOT_PLAIN:
            self.refused(NotPlain, Network, rules=thing)
            self.refused(NotPlain, Network, rules=thing, may=list(LETTERS[16:26]))

    def test_more_than_24_names_in_both(self):
        self.assertEqual(Network(may=["a"], rules=base_with(24)).may(), ["a"])
        self.assertEqual(len(Network(may=list(LETTERS[14:24]), rules=base_with(14)).labels()), 24)
        self.refused(TooMany, Network, may=["y"], rules=base_with(24))
        self.refused(TooMany, Network, may=list(LETTERS[15:25]), rules=base_with(15))
        self.refused(NotPlain, Network, may=["y"], rules=base_with(23) + [Rule("a", unless=["x"])])

    def test_forty_rules(self):
        net = Network(may=["a"], rules=[Rule("b", ["a"])] * 40)
        self.assertEqual((len(net.rules()), len(net.log()), len(net.idle())), (40, 41, 40))


class Unchanged(Refusing):
    def unchanged(self, refusal, net, name, *things):
        """It is refused, and all is as ahead, also what can be done again and what tells of the last change."""
        before = told_by(net)
        told = self.refused(refusal, getattr(net, name), *things)
        self.assertEqual(told_by(net), before)
        return told

    def some_net(self):
        """One that has deeds to take back and to do again."""
        net = Network(may=["b", "a"], rules=RULES)
        net.back()
        return net


class Refused(Unchanged):
    def test_tell_and_drop(self):
        net = self.some_net()
        for thing in NO_RULES:
            self.unchanged(BadRule, net, "tell", thing)
        self.unchanged(NotPlain, net, "tell", Rule("a", unless=["b"]))
        self.unchanged(NotPlain, net, "tell", Rule(None, ["a"], unless=["a"]))
        for thing in NO_NUMBERS:
            told = self.unchanged(NoRule, net, "drop", thing).number
            self.assertEqual((told, told.__class__), (thing, thing.__class__))

    def test_assume_and_unassume(self):
        net = self.some_net()
        for thing in NEITHER + LISTS:
            for name in ("assume", "unassume", "label", "lacking"):
                self.unchanged(BadName, net, name, thing)
                self.refused(BadName, getattr(net, name), name=thing)
        self.assertEqual(self.unchanged(Twice, net, "assume", "a").name, "a")
        self.assertEqual(self.unchanged(NotThere, net, "unassume", "c").name, "c")
        self.assertEqual(self.unchanged(NotThere, net, "unassume", "z").name, "z")
        net.unassume("a")
        self.assertEqual(self.unchanged(NotThere, net, "unassume", "a").name, "a")
        net.assume("a")

    def test_too_many_assumed(self):
        net = Network(may=list(LETTERS[:10]))
        self.unchanged(TooMany, net, "assume", "k")
        self.assertEqual(self.unchanged(Twice, net, "assume", "j").name, "j")
        net.unassume("c")
        net.assume("k")
        self.unchanged(TooMany, net, "assume", "c")

    def test_too_many_names(self):
        net = Network(may=["a", "x"], rules=base_with(23))
        self.unchanged(TooMany, net, "assume", "y")
        self.assertEqual(self.unchanged(Twice, net, "assume", "x").name, "x")
        self.unchanged(TooMany, net, "tell", Rule("y"))
        self.unchanged(TooMany, net, "tell", Rule("a", ["b", "y"]))
        self.unchanged(NotPlain, net, "tell", Rule("y", unless=["z"]))
        self.assertIsNone(net.assume("w"))
        self.assertEqual(net.tell(Rule("x", ["w", "b"])), 5)
        net.unassume("x")
        self.unchanged(TooMany, net, "assume", "y")
        net.drop(5)
        net.assume("y")

    def test_too_many_rules(self):
        net = Network(may=["a"], rules=[Rule("b", ["a"])] * 40)
        self.refused(TooMany, net.tell, Rule("b"))
        self.refused(NotPlain, net.tell, Rule("b", unless=["a"]))
        self.refused(BadRule, net.tell, None)
        net.drop(40)
        self.assertEqual(net.tell(Rule("b")), 41)
        self.refused(TooMany, net.tell, Rule("b"))

    def test_held(self):
        net = self.some_net()
        for thing in NEITHER + NAMES:
            self.unchanged(BadNames, net, "held", thing)
        self.refused(BadNames, net.held, list(LETTERS[:25]))
        self.assertEqual(self.unchanged(NotThere, net, "held", ["z", "a", "c", "d"]).name, "c")
        self.assertEqual(self.refused(NotThere, net.held, ("zz", "zb", "b")).name, "zb")
        self.assertEqual(self.refused(NotThere, net.held, list(LETTERS[:24])).name, "c")
        self.assertEqual((net.held([]), net.held(()), net.held(("b", "a"))), ([], [], ["a", "b", "c"]))


class AllDone(Unchanged):
    def test_what_each_gives(self):
        net = Network()
        deeds = [("assume", "a"), ("tell", Rule("b", ["a"]).told()), ("tell", Rule("c", ["b"]).told()), ("drop", 1),
                 ("assume", "b"), ("unassume", "a")]
        for rows in (deeds, tuple(deeds)):
            net = Network()
            self.assertEqual(net.all_done(rows), [None, 1, 2, Rule("b", ["a"]), None, None])
            self.assertEqual((net.log(), net.touched(), net.may()), (deeds, ["a"], ["b"]))
            net.back()
            self.assertEqual(net.may(), ["a", "b"])
        self.assertEqual(deeds[3], ("drop", 1))

    def test_they_go_on_from_where_it_stands(self):
        net = self.some_net()
        self.assertEqual(net.all_done([("tell", RULES[3].told()), ("drop", 1)]), [4, RULES[0]])
        self.refused(NoDeed, net.again)
        self.assertEqual(len(net.log()), 7)

    def test_no_deeds(self):
        net = self.some_net()
        before = told_by(net)
        self.assertEqual((net.all_done([]), net.all_done(())), ([], []))
        self.assertEqual(told_by(net), before)

    def test_what_is_no_list(self):
        for thing in (None, 0, 1, True, "", "tell", "assume", {}, {"assume": "a"}, {0: ("assume", "a")}, Rule("a")):
            self.assertEqual(self.unchanged(NoLog, self.some_net(), "all_done", thing).at, 0)
            self.assertEqual(self.refused(NoLog, replayed, thing).at, 0)
            self.assertEqual(self.refused(NoLog, replayed, log=thing).at, 0)

    def test_rows_that_are_none(self):
        good = ("assume", "z")
        rows = [None, 0, True, "assume", "", [], (), {}, Rule("a"), ["assume", "z"], ("assume",), ("assume", "z", "y"),
                ("tell",), ("drop",), ("unassume",), ("tell", Rule("z").told(), False), ("back",), ("again",),
                ("back", None), ("ground", "z"), ("unground", "z"), ("Tell", Rule("z").told()), ("", "z"), (None, "z"),
                (1, "z"), (True, "z"), (["assume"], "z"), (("assume",), "z"), (Rule("a"), "z"), ("z", "assume"),
                ("twin", 1), ("tell ", Rule("z").told()), ({}, "z"), Rule("z").told(), ("assume", "z", None)]
        net = self.some_net()
        for row in rows:
            self.assertEqual(self.refused(NoLog, net.all_done, [row]).at, 0, row)
            self.assertEqual(self.refused(NoLog, net.all_done, (good, row, row)).at, 1, row)
            # Ahead of all deeds, also of those that are refused.
            self.assertEqual(self.refused(NoLog, net.all_done, [("drop", 77), good, good, row]).at, 3, row)
            self.assertEqual(self.refused(NoLog, replayed, [("drop", 77), row]).at, 1, row)
        self.unchanged(NoLog, net, "all_done", [good, None])
        self.assertEqual(told_by(net), told_by(self.some_net()))

    def test_two_hundred_rows_and_one_more(self):
        turns = [("assume", "z"), ("unassume", "z")] * 100
        net = self.some_net()
        self.assertEqual(net.all_done(turns), [None] * 200)
        self.assertEqual(len(net.log()), 205)
        self.assertEqual(replayed(tuple(turns)).log(), turns)
        net = self.some_net()
        for rows in (turns + turns[:1], turns + [None], turns * 2, (*turns, ("drop", 77)), [("drop", 77)] * 201):
            self.assertEqual(self.unchanged(NoLog, net, "all_done", rows).at, 200)
            self.assertEqual(self.refused(NoLog, replayed, rows).at, 200)
        self.assertEqual(self.refused(NoLog, net.all_done, turns + turns[:5] + [None]).at, 200)
        self.assertEqual(self.refused(NoLog, net.all_done, turns[:199] + [None] + turns).at, 199)
        self.assertEqual(self.refused(NoLog, net.all_done, [None] + turns).at, 0)
        self.assertEqual(self.refused(NoLog, net.all_done, turns[:199] + [None]).at, 199)

    def test_where_one_is_refused_all_is_as_ahead(self):
        first = [("assume", "z"), ("drop", 1), ("tell", Rule("z", ["a"]).told()), ("unassume", "b")]
        wrong = [(("assume", thing), BadName) for thing in NEITHER + LISTS]
        wrong += [(("unassume", thing), BadName) for thing in NEITHER + LISTS]
        wrong += [(("tell", thing), BadRule) for thing in NEITHER + NAMES + LISTS]
        wrong += [(("drop", thing), NoRule) for thing in NO_NUMBERS if thing != 4 or isinstance(thing, bool)]
        wrong += [(("assume", "a"), Twice), (("unassume", "b"), NotThere),
                  (("tell", ("rule", "a", ["b"], ())), BadRule), (("tell", Rule("a", unless=["b"]).told()), NotPlain),
                  (("drop", 1), NoRule)]
        net = self.some_net()
        before = told_by(net)
        for row, refusal in wrong:
            told = self.refused(refusal, net.all_done, first + [row, ("drop", 99)])
            if refusal is NoRule:
                self.assertEqual((told.number, told.number.__class__), (row[1], row[1].__class__))
        self.assertEqual(told_by(net), before)
        self.assertEqual(self.unchanged(Twice, net, "all_done", first + [("assume", "z")]).name, "z")
        self.assertEqual(self.unchanged(NotThere, net, "all_done", first + [("unassume", "b")]).name, "b")
        self.unchanged(TooMany, net, "all_done", first + [("tell", rule.told()) for rule in base_with(24)])
        self.unchanged(TooMany, net, "all_done", [("assume", letter) for letter in LETTERS[2:11]])
        self.unchanged(TooMany, net, "all_done", [("tell", RULES[0].told())] * 38)

    def test_replayed(self):
        net = self.some_net()
        net.unassume("b")
        net.drop(1)
        other = replayed(net.log())
        self.assertEqual(told_by(other), told_by(net))
        self.assertEqual(told_by(replayed(Network(may=["b", "a"], rules=RULES).log())),
                         told_by(Network(may=["b", "a"], rules=RULES)))
        self.assertEqual(told_by(replayed([])), told_by(Network()))
        self.assertEqual(self.refused(NoRule, replayed, [("drop", 1)]).number, 1)
        self.assertEqual(self.refused(Twice, replayed, [("assume", "a"), ("assume", "a")]).name, "a")
        self.refused(NotPlain, replayed, [("tell", Rule("a", unless=["b"]).told())])


if __name__ == "__main__":
    unittest.main()

"""[1] and [2] over the whole program, and the names and arguments of the interface."""

import importlib
import inspect
import random
import unittest

from groundlots import errors
from groundlots.change import changes, given_up, kernels, remainders, taken_on
from groundlots.contexts import contexts, repairs
from groundlots.errors import GroundError, IsHeld, NotHeld
from groundlots.held import clash, held, shows, shuts, why, why_not
from groundlots.keeper import Keeper
from groundlots.labels import backed, contradictions, label, labels, lacking
from groundlots.lots import bears, greatest, hits
from groundlots.machines import Machine
from groundlots.network import Network
from groundlots.ranks import best, firms, in_best
from groundlots.rules import Rule
from groundlots.standings import is_standing, standings, strata, sure
from groundlots.texts import base_text, read_base
from walks import all_sets, names_of, slow_standings, some_bases, some_of, some_open_bases, some_ranks

INTERFACE = {
    "words": {"is_name": "(thing)"},
    "rules": {"rule_of": "(told)"},
    "texts": {"read_rule": "(text)", "base_text": "(rules, may=())", "read_base": "(text)"},
    "held": {"held": "(rules, grounds)", "clash": "(rules, grounds)", "levels": "(rules, grounds)",
             "why": "(rules, grounds, name)", "shows": "(rules, grounds, name, paper)",
             "why_not": "(rules, grounds, name)", "shuts": "(rules, grounds, name, names)"},
    "lots": {"lot": "(sets)", "bears": "(sets, some)", "joined": "(one, other)", "met": "(one, other)",
             "hits": "(sets)", "greatest": "(things, sets)"},
    "labels": {"contradictions": "(rules, may)", "label": "(rules, may, name)", "labels": "(rules, may)",
               "lacking": "(rules, may, name)", "is_label": "(rules, may, name, thing)",
               "backed": "(rules, may, name)"},
    "network": {"replayed": "(log)"},
    "contexts": {"repairs": "(rules, may)", "contexts": "(rules, may)", "blamed": "(rules, may)",
                 "free": "(rules, may)", "borne": "(rules, may, name)", "in_all": "(rules, may)",
                 "in_some": "(rules, may)", "defence": "(rules, may, name)", "counter": "(rules, may, name)"},
    "ranks": {"cut": "(ranks, least)", "best": "(rules, ranks)", "clash_rank": "(rules, ranks)",
              "firm": "(rules, ranks, name)", "firms": "(rules, ranks)", "in_best": "(rules, ranks)"},
    "change": {"kernels": "(rules, base, name)", "remainders": "(rules, base, name)",
               "given_up": "(rules, ranks, name, *, way='each')", "taken_on": "(rules, ranks, name, rank=5)",
               "changes": "(rules, ranks, steps)"},
    "standings": {"reduct": "(rules, names)", "is_standing": "(rules, grounds, thing)",
                  "standings": "(rules, grounds)", "sure": "(rules, grounds)", "strata": "(rules)"},
    "desk": {"answers": "(text)"},
}
TELLING = {"drop": "(self, number)", "rules": "(self)", "back": "(self)", "again": "(self)", "log": "(self)",
           "twin": "(self)"}
CLASSES = {
    ("rules", "Rule"): {"__init__": "(self, head, body=(), *, unless=())", "told": "(self)", "text": "(self)",
                        "__str__": "(self)", "__eq__": "(self, other)"},
    ("telling", "Telling"): {"__init__": "(self)", "tell": "(self, rule)", **TELLING},
    ("network", "Network"): {
        "__init__": "(self, *, may=(), rules=())", "tell": "(self, rule)", **TELLING, "assume": "(self, name)",
        "unassume": "(self, name)", "may": "(self)", "label": "(self, name)", "labels": "(self)",
        "contradictions": "(self)", "lacking": "(self, name)", "held": "(self, some)", "touched": "(self)",
        "jolted": "(self)", "idle": "(self)", "all_done": "(self, deeds)"},
    ("keeper", "Keeper"): {
        "__init__": "(self)", "tell": "(self, rule, *, soft=False)", **TELLING, "ground": "(self, name)",
        "unground": "(self, name)", "grounds": "(self)", "stands": "(self)", "came": "(self)", "went": "(self)",
        "culprits": "(self)", "why": "(self, name)"},
    ("machines", "Machine"): {
        "__init__": "(self, parts, rules)", "see": "(self, name, *, there=True)", "unsee": "(self, name)",
        "see_all": "(self, names, *, there=True)", "seen": "(self)", "diagnoses": "(self)", "share": "(self, part)",
        "shares": "(self)", "look": "(self, names)"},
    ("desk", "Desk"): {"__init__": "(self)", "answer": "(self, row)"},
}
REFUSALS = {
    "BadName": (), "BadNames": (), "BadRule": (), "BadRules": (), "NotPlain": (), "NoText": ("row",), "NotHeld": (),
    "IsHeld": (), "BadSets": (), "TooMany": (), "NoRule": ("number",), "NoDeed": (), "Twice": ("name",),
    "NotThere": ("name",), "NoLog": ("at",), "BadRanks": (), "Needed": (), "BadWay": (), "Contrary": (),
    "BadStep": ("at",), "BadParts": (),
}


def told(call, *things):
    """What a call tells, or the refusal's class."""
    try:
        return call(*things)
    except GroundError as refusal:
        return type(refusal)


class Interface(unittest.TestCase):
    def test_functions(self):
        for file, calls in INTERFACE.items():
            module = importlib.import_module(f"groundlots.{file}")
            for name, right in calls.items():
                call = getattr(module, name)
                self.assertEqual((call.__module__, call.__name__), (module.__name__, name))
                self.assertEqual(str(inspect.signature(call)), right, name)

    def test_classes_and_their_methods(self):
        for (file, name), methods in CLASSES.items():
            kind = getattr(importlib.import_module(f"groundlots.{file}"), name)
            self.assertEqual(kind.__module__, f"groundlots.{file}")
            for method, right in methods.items():
                self.assertIn(method, vars(kind), name)
                self.assertEqual(str(inspect.signature(vars(kind)[method])), right, (name, method))

    def test_refusals(self):
        self.assertEqual(GroundError.__bases__, (ValueError,))
        for name, fields in REFUSALS.items():
            kind = getattr(errors, name)
            self.assertEqual(kind.__bases__, (GroundError,))
            made = kind(7) if fields else kind("told")
            self.assertEqual([getattr(made, field) for field in fields], [7] * len(fields))
        there = [thing for thing in vars(errors).values() if isinstance(thing, type) and issubclass(thing, GroundError)]
        self.assertEqual(len(there), len(REFUSALS) + 1)


class AllOfIt(unittest.TestCase):
    def test_a_what_is_held_has_a_paper_or_else_a_closed_set(self):
        chance = random.Random(1)
        for rules in some_bases(150, nevers=2):
            grounds = some_of(chance, "abf")
            for name in names_of(rules, grounds) + ["z", None]:
                there = clash(rules, grounds) if name is None else name in held(rules, grounds)
                paper, shut = told(why, rules, grounds, name), told(why_not, rules, grounds, name)
                if there:
                    self.assertIs(shut, IsHeld)
                    self.assertTrue(shows(rules, grounds, name, paper))
                else:
                    self.assertIs(paper, NotHeld)
                    self.assertTrue(shuts(rules, grounds, name, shut))
                tried = any(shuts(rules, grounds, name, one) for one in all_sets(names_of(rules, grounds)))
                self.assertEqual(tried, not there)

    def test_b_labels_lacking_contradictions_repairs_and_contexts(self):
        chance = random.Random(2)
        for rules in some_bases(100, nevers=3, sizes=(1, 1, 2, 2, 3)):
            may = some_of(chance, "abcdf")
            against = contradictions(rules, may)
            self.assertEqual(repairs(rules, may), hits(against))
            self.assertEqual(contexts(rules, may), greatest(may, against))
            self.assertEqual(hits(repairs(rules, may)), against)
            for name in names_of(rules, may):
                pairs = backed(rules, may, name)
                self.assertEqual([one for one, _ in pairs], label(rules, may, name))
                self.assertTrue(all(shows(rules, one, name, paper) for one, paper in pairs))
                for one in all_sets(may):
                    if not bears(against, one):
                        within = any(set(one) <= set(other) for other in lacking(rules, may, name))
                        self.assertNotEqual(bears(label(rules, may, name), one), within)

    def test_c_a_network_behind_deeds_tells_what_a_fresh_one_does(self):
        for seed in range(30):
            chance = random.Random(seed)
            pool = list(some_bases(1, most_rules=12, seed=seed, nevers=3, sizes=(1, 1, 2, 2)))[0] + [Rule("a", ["b"])]
            net = Network()
            for _ in range(40):
                before = net.labels()
                deed = chance.choice([net.back, net.again, lambda: net.tell(chance.choice(pool)),
                                      lambda: net.assume(chance.choice("abcdef")),
                                      lambda: net.unassume(chance.choice("abcdef")),
                                      lambda: net.drop(chance.choice(net.rules() or [(0, 0)])[0])])
                told(deed)
                names = sorted({*before, *net.labels()})
                if before != net.labels():
                    changed = [name for name in names if before.get(name, []) != net.labels().get(name, [])]
                    self.assertEqual(net.touched(), changed)
            rules = [rule for _, rule in net.rules()]
            fresh = Network(may=chance.sample(net.may(), len(net.may())), rules=chance.sample(rules, len(rules)))
            self.assertEqual((fresh.labels(), fresh.contradictions()), (net.labels(), net.contradictions()))
            self.assertEqual((labels(rules, net.may()), contradictions(rules, net.may())),
                             (net.labels(), net.contradictions()))

    def test_d_ranks_and_changes(self):
        chance = random.Random(4)
        for rules in some_bases(100, nevers=3, sizes=(1, 1, 2, 2, 3)):
            ranks = some_ranks(chance, "abcdef")
            self.assertLessEqual({*best(rules, ranks)}, {*contexts(rules, list(ranks))})
            for name, number in firms(rules, ranks).items():
                self.assertTrue(number == 0 or name in in_best(rules, ranks))
            now = ranks
            for name in [None, *chance.sample("abcde", 3)]:
                whole = remainders(rules, list(now), name) == [tuple(sorted(now))]
                self.assertEqual(kernels(rules, list(now), name) == [], whole)
                gone = given_up(rules, now, name)
                rest = {one: now[one] for one in sorted(now) if one not in gone}
                self.assertEqual(changes(rules, now, [("off", name)]), [rest])
                if name is not None and not clash(rules, [name]):
                    steps = [("off", name), ("on", name, 7)]
                    self.assertEqual(changes(rules, now, steps), [rest, taken_on(rules, rest, name, 7)])
                    now = taken_on(rules, now, name, 7)
                    self.assertFalse(clash(rules, list(now)))

    def test_e_standings_and_a_keeper(self):
        for rules in some_open_bases(60, nots=(0, 1, 1, 2)):
            there = standings(rules, [])
            self.assertEqual(there, slow_standings(rules, []))
            ins, outs = sure(rules, [])
            self.assertTrue(all(set(ins) <= set(one) and not set(outs) & set(one) for one in there))
            if strata(rules) is not None:
                self.assertEqual(sorted(ins + outs), names_of(rules))
            keeper = Keeper()
            for at, rule in enumerate(rules):
                keeper.tell(rule, soft=at % 2 == 0)
            stands = keeper.stands()
            self.assertEqual(stands is None, not there)
            self.assertEqual(keeper.culprits() == [()], stands is not None)
            if stands is not None:
                self.assertTrue(is_standing(rules, [], stands))

    def test_f_diagnoses_are_the_repairs_of_what_was_seen(self):
        chance = random.Random(6)
        for rules in some_bases(60, nevers=1, sizes=(1, 1, 2, 2)):
            machine = Machine({name: (1, 3) for name in "abf"}, rules)
            for name in some_of(chance, "cde"):
                machine.see(name, there=False)
            seen = [Rule(None, [name]) for name in machine.seen()]
            self.assertEqual(machine.diagnoses(), repairs(rules + seen, ["a", "b", "f"]))

    def test_texts_of_bases_lead_there_and_back(self):
        chance = random.Random(7)
        for rules in some_open_bases(60):
            may = some_of(chance, "abxyz")
            self.assertEqual(read_base(base_text(rules, may)), (rules, sorted(may)))


if __name__ == "__main__":
    unittest.main()

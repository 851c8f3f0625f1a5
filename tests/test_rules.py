"""[3], [11] and the first sentence of [12]: Rules, what they tell, and their texts."""

import copy
import inspect
import itertools
import unittest

from groundlots import errors, rules
from groundlots.errors import BadRule, GroundError
from groundlots.rules import Rule, rule_of
from things import LISTS, NAMES, NEITHER

TEXTS = [
    (("a",), {}, "a"),
    (("a", ["b"]), {}, "a <- b"),
    (("a", ["b", "c"]), {}, "a <- b, c"),
    (("a", ["c", "b"]), {}, "a <- c, b"),
    (("a", ["b"]), {"unless": ["d"]}, "a <- b, not d"),
    (("a", ["b", "c"]), {"unless": ["e", "d"]}, "a <- b, c, not e, not d"),
    (("a",), {"unless": ["d"]}, "a <- not d"),
    (("a",), {"unless": ["d", "b"]}, "a <- not d, not b"),
    (("a", ["a"]), {"unless": ["a"]}, "a <- a, not a"),
    ((None,), {}, "never"),
    ((None, ["b"]), {}, "never b"),
    ((None, ["b", "a"]), {}, "never b, a"),
    ((None, ["b"]), {"unless": ["d"]}, "never b, not d"),
    ((None,), {"unless": ["d"]}, "never not d"),
    ((None,), {"unless": ["d", "c"]}, "never not d, not c"),
    (("abcdefgh", list("abcdef")), {"unless": list("wxyz")},
     "abcdefgh <- a, b, c, d, e, f, not w, not x, not y, not z"),
]


def some_rules():
    """Rules with and without head, body and unless, all unlike."""
    lists = [(), ("a",), ("b",), ("a", "b"), ("b", "a"), ("c", "b", "a")]
    return [Rule(head, body, unless=unless)
            for head, body, unless in itertools.product((None, "a", "b", "nevers"), lists, lists)]


class Refusing(unittest.TestCase):
    def refused(self, make, *things, **more):
        with self.assertRaises(GroundError) as told:
            make(*things, **more)
        self.assertIs(told.exception.__class__, BadRule, (things, more))
        self.assertIsInstance(told.exception, ValueError)
        for name, other in inspect.getmembers(errors, inspect.isclass):
            if name not in ("BadRule", "GroundError"):
                self.assertNotIsInstance(told.exception, other)


class Made(Refusing):
    def fields(self, rule, head, body, unless):
        self.assertEqual((rule.head, rule.body, rule.unless), (head, body, unless))
        self.assertIsInstance(rule.body, tuple)
        self.assertIsInstance(rule.unless, tuple)

    def test_where_it_is_defined(self):
        self.assertEqual(Rule.__module__, "groundlots.rules")
        self.assertEqual(rules.rule_of.__module__, "groundlots.rules")
        for name in ("__init__", "told", "text", "__str__", "__eq__"):
            self.assertIn(name, vars(Rule))

    def test_fields(self):
        self.fields(Rule("a"), "a", (), ())
        self.fields(Rule("a", ["c", "b"]), "a", ("c", "b"), ())
        self.fields(Rule("a", unless=["d", "c"]), "a", (), ("d", "c"))
        self.fields(Rule(None, ["b"], unless=["c"]), None, ("b",), ("c",))
        self.fields(Rule(None), None, (), ())

    def test_by_place_and_by_name(self):
        self.fields(Rule(head="a", body=["b"], unless=["c"]), "a", ("b",), ("c",))
        self.fields(Rule(unless=("c",), body=("b",), head=None), None, ("b",), ("c",))
        self.fields(Rule("a", body=["b"]), "a", ("b",), ())

    def test_unless_goes_by_name_alone(self):
        with self.assertRaises(TypeError):
            Rule("a", ["b"], ["c"])

    def test_a_head_must_be_handed_in(self):
        with self.assertRaises(TypeError):
            Rule()

    def test_lists_and_tuples_alike(self):
        self.assertEqual(Rule("a", ["b", "c"], unless=["d"]), Rule("a", ("b", "c"), unless=("d",)))

    def test_changing_a_list_later_changes_nothing(self):
        body, unless = ["b", "c"], ["d"]
        rule = Rule("a", body, unless=unless)
        body.append("e")
        body[0] = "z"
        unless.clear()
        self.fields(rule, "a", ("b", "c"), ("d",))
        self.assertEqual(rule.told(), ("rule", "a", ("b", "c"), ("d",)))
        self.assertEqual(rule.text(), "a <- b, c, not d")

    def test_what_is_handed_in_stays(self):
        body, unless = ["c", "b"], ["e", "d"]
        Rule("a", body, unless=unless)
        self.assertEqual((body, unless), (["c", "b"], ["e", "d"]))
        bad = ["c", "c", {"b": []}]
        before = copy.deepcopy(bad)
        self.refused(Rule, "a", bad)
        self.assertEqual(bad, before)

    def test_a_name_in_head_body_and_unless_at_once(self):
        self.fields(Rule("a", ["a"], unless=["a"]), "a", ("a",), ("a",))
        self.fields(Rule("a", ["b", "a"], unless=["a", "b"]), "a", ("b", "a"), ("a", "b"))

    def test_as_many_as_there_may_be(self):
        for many in range(7):
            self.fields(Rule("z", list("abcdef")[:many]), "z", tuple("abcdef")[:many], ())
        for many in range(5):
            self.fields(Rule("z", unless=list("abcd")[:many]), "z", (), tuple("abcd")[:many])
        self.fields(Rule("z", "f e d c b a".split(), unless=tuple("wxyz")), "z", tuple("fedcba"), tuple("wxyz"))

    def test_more_than_there_may_be(self):
        for make in (list, tuple):
            for many in (7, 8, 24, 25):
                self.refused(Rule, "z", make("abcdefghijklmnopqrstuvwxy"[:many]))
            for many in (5, 6, 7, 24, 25):
                self.refused(Rule, "z", unless=make("abcdefghijklmnopqrstuvwxy"[:many]))
        self.refused(Rule, None, list("abcdefg"))
        self.refused(Rule, None, (), unless=list("abcde"))

    def test_a_name_twice(self):
        for twice in (["b", "b"], ("b", "b"), ["b", "c", "b"], ["c", "b", "b"]):
            self.refused(Rule, "a", twice)
            self.refused(Rule, None, twice)
            self.refused(Rule, "a", unless=twice)
            self.refused(Rule, "a", ["d"], unless=twice)

    def test_what_is_no_head(self):
        for thing in [thing for thing in NEITHER if thing is not None] + LISTS:
            self.refused(Rule, thing)
            self.refused(Rule, thing, ["b"], unless=["c"])

    def test_what_is_no_body(self):
        for thing in NEITHER + NAMES:
            self.refused(Rule, "a", thing)
            self.refused(Rule, None, thing, unless=["c"])
            self.refused(Rule, "a", body=thing)

    def test_what_is_no_unless(self):
        for thing in NEITHER + NAMES:
            self.refused(Rule, "a", unless=thing)
            self.refused(Rule, None, ["b"], unless=thing)

    def test_all_wrong_at_once(self):
        self.refused(Rule, 1, 2, unless=3)
        self.refused(Rule, True, None, unless="a")


class Told(unittest.TestCase):
    def test_told(self):
        self.assertEqual(Rule("a").told(), ("rule", "a", (), ()))
        self.assertEqual(Rule("a", ["c", "b"]).told(), ("rule", "a", ("c", "b"), ()))
        self.assertEqual(Rule("a", ["c"], unless=["e", "d"]).told(), ("rule", "a", ("c",), ("e", "d")))
        self.assertEqual(Rule(None).told(), ("rule", None, (), ()))
        self.assertEqual(Rule(None, ["b"], unless=["b"]).told(), ("rule", None, ("b",), ("b",)))

    def test_it_is_made_of_tuples(self):
        told = Rule("a", ["c"], unless=["d"]).told()
        for thing in (told, told[2], told[3]):
            self.assertIsInstance(thing, tuple)

    def test_telling_changes_nothing(self):
        rule = Rule("a", ["c", "b"], unless=["d"])
        for _ in range(3):
            self.assertEqual(rule.told(), ("rule", "a", ("c", "b"), ("d",)))
            self.assertEqual(rule.text(), "a <- c, b, not d")
            self.assertEqual((rule.head, rule.body, rule.unless), ("a", ("c", "b"), ("d",)))


class Equal(unittest.TestCase):
    def test_rules_that_tell_the_same(self):
        for one, other in zip(some_rules(), some_rules()):
            self.assertIs(one == other, True)
            self.assertIs(one != other, False)

    def test_rules_that_tell_otherwise(self):
        made = some_rules()
        for at, one in enumerate(made):
            for place, other in enumerate(made):
                self.assertIs(one == other, at == place)
                self.assertIs(one != other, at != place)

    def test_nothing_else_is_equal(self):
        class Like:
            """It has what a Rule has, and is none."""
            head, body, unless = "a", (), ()

            def told(self):
                return ("rule", "a", (), ())

        rule = Rule("a")
        for thing in [Like(), "a", rule.told(), rule.text(), None, 1, True, [rule], (rule,), {"a": rule}, ["a"]]:
            self.assertIs(rule == thing, False)
            self.assertIs(thing == rule, False)
            self.assertIs(rule != thing, True)
        never = Rule(None)
        for thing in (None, "never", never.told(), ()):
            self.assertIs(never == thing, False)


class RuleOf(Refusing):
    def test_there_and_back(self):
        for rule in some_rules():
            again = rule_of(rule.told())
            self.assertIsInstance(again, Rule)
            self.assertEqual(again, rule)
            self.assertEqual(again.told(), rule.told())

    def test_by_place_and_by_name(self):
        self.assertEqual(rule_of(("rule", "a", ("b",), ("c",))), Rule("a", ["b"], unless=["c"]))
        self.assertEqual(rule_of(told=("rule", None, ("b",), ())), Rule(None, ["b"]))

    def test_as_many_as_there_may_be(self):
        told = ("rule", "z", tuple("abcdef"), tuple("wxyz"))
        self.assertEqual(rule_of(told).told(), told)
        self.refused(rule_of, ("rule", "z", tuple("abcdefg"), ()))
        self.refused(rule_of, ("rule", "z", (), tuple("vwxyz")))

    def test_too_short_and_too_long(self):
        whole = ("rule", "a", ("b",), ("c",))
        for many in range(4):
            self.refused(rule_of, whole[:many])
        self.refused(rule_of, whole[1:])
        for more in ((), ("d",), None, "d"):
            self.refused(rule_of, whole + (more,))
        self.refused(rule_of, whole + whole)

    def test_another_first_word(self):
        for word in ("", "Rule", "RULE", "rules", "rul", " rule", "rule ", "rule\n", "tell", "a", "never",
                     None, 1, True, ("rule",), ["rule"], {"rule": 1}, Rule("a"), Rule("rule")):
            self.refused(rule_of, (word, "a", ("b",), ("c",)))

    def test_lists_in_the_place_of_tuples(self):
        self.refused(rule_of, ["rule", "a", ("b",), ("c",)])
        self.refused(rule_of, ["rule", "a", (), ()])
        self.refused(rule_of, ("rule", "a", ["b"], ("c",)))
        self.refused(rule_of, ("rule", "a", ("b",), ["c"]))
        self.refused(rule_of, ("rule", "a", [], ()))
        self.refused(rule_of, ("rule", "a", (), []))
        self.refused(rule_of, ("rule", "a", ["b"], ["c"]))

    def test_what_is_no_tuple_of_a_rule(self):
        for thing in NEITHER + NAMES + LISTS + ["rule", "a <- b", {"rule": "a"}]:
            self.refused(rule_of, thing)

    def test_a_rule_tells_but_is_nothing_told(self):
        self.refused(rule_of, Rule("a"))
        self.refused(rule_of, (Rule("a"),))

    def test_wrong_things_in_each_place(self):
        for thing in [thing for thing in NEITHER if thing is not None] + LISTS:
            self.refused(rule_of, ("rule", thing, (), ()))
        for thing in NEITHER + NAMES:
            self.refused(rule_of, ("rule", "a", thing, ()))
            self.refused(rule_of, ("rule", "a", (), thing))

    def test_what_is_handed_in_stays(self):
        bad = ("rule", "a", ["b"], ("c",))
        self.refused(rule_of, bad)
        self.assertEqual(bad, ("rule", "a", ["b"], ("c",)))


class Texts(unittest.TestCase):
    def test_texts(self):
        for things, more, text in TEXTS:
            rule = Rule(*things, **more)
            self.assertEqual(rule.text(), text)
            self.assertEqual(str(rule), text)
            self.assertEqual(f"{rule}", text)

    def test_unlike_rules_have_unlike_texts(self):
        made = some_rules()
        self.assertEqual(len({rule.text() for rule in made}), len(made))


if __name__ == "__main__":
    unittest.main()

"""[120]: texts of names, sets and rules."""

import unittest

from groundlots.rules import Rule
from groundlots.told import names_text, rules_text, set_text, sets_text


class Texts(unittest.TestCase):
    def test_names_and_numbers(self):
        self.assertEqual(names_text(["a", "bc", "d"]), "a bc d")
        self.assertEqual((names_text(["a"]), names_text([1, 20]), names_text([])), ("a", "1 20", "none"))

    def test_one_set(self):
        told = [set_text(one) for one in (("a", "bc"), [3, 1], (), [])]
        self.assertEqual(told, ["a bc", "3 1", "-", "-"])

    def test_sets(self):
        self.assertEqual(sets_text([("c",), ("a", "b")]), "c | a b")
        self.assertEqual((sets_text([("a",)]), sets_text([()]), sets_text([])), ("a", "-", "none"))

    def test_rules(self):
        rules = [(2, Rule("a")), (10, Rule(None, ["a", "b"])), (11, Rule("c", ["a"]))]
        self.assertEqual(rules_text(rules), "2 a; 10 never a, b; 11 c <- a")
        self.assertEqual((rules_text(rules[:1]), rules_text([])), ("2 a", "none"))


if __name__ == "__main__":
    unittest.main()

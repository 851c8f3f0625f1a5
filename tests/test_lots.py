"""[30] to [32]: lots of sets, and what meets them."""

import itertools
import random
import unittest

from groundlots import lots as file
from groundlots.errors import BadSets
from groundlots.lots import bears, greatest, hits, joined, lot, met
from refusing import WRONG, Refusing
from things import LETTERS, NO_SETS
from walks import all_sets, greatest_of, in_lots, least_of

KINDS = ((list("abcde"), "names"), (["b", "aa", "a", "abcdefgh", "ab"], "names of several letters"),
         ([0, 1, 2, 9, 10], "numbers"), ([10 ** 30, 7, 100, 20, 3], "great numbers"))


def some_sets(many, things, seed, most=6):
    """Lists of sets of things, as lists or tuples, in any order, like ones also twice."""
    chance = random.Random(seed)
    for _ in range(many):
        sizes = [chance.choice((0, 1, 1, 2, 2, 2, 3, 4, 5)) for _ in range(chance.randrange(most))]
        sets = [chance.sample(things, size) for size in sizes]
        sets += [chance.sample(one, len(one)) for one in sets if chance.random() < 0.2]
        if chance.random() < 0.8:
            sets = [one for one in sets if one]
        yield [tuple(one) if chance.random() < 0.5 else one for one in sets]


def slow_hits(things, sets):
    return least_of([one for one in all_sets(things) if all(set(one) & set(other) for other in sets)])


def slow_greatest(things, sets):
    return greatest_of([one for one in all_sets(things) if not any(set(other) <= set(one) for other in sets)])


class Lots(unittest.TestCase):
    def is_lot(self, told):
        """It is a list of rising tuples, in the order of lots, none within another one."""
        self.assertIs(type(told), list)
        self.assertEqual(told, least_of(told))
        for one in told:
            self.assertIs(type(one), tuple)
            self.assertEqual(list(one), sorted(set(one)))

    def test_where_these_are_defined(self):
        for call in (lot, bears, joined, met, hits, greatest):
            self.assertEqual(call.__module__, file.__name__)

    def test_ordinary(self):
        self.assertEqual(lot([["b", "a"], ["c"], ("a", "b"), ["c", "a"]]), [("c",), ("a", "b")])
        self.assertEqual(lot([[2, 10], [9], [10, 2, 3]]), [(9,), (2, 10)])
        self.assertIs(bears([["b", "a"], ["c"]], ["a", "d", "b"]), True)
        self.assertIs(bears([["b", "a"], ["c"]], ["a", "d"]), False)
        self.assertEqual(joined([["a"], ["b", "c"]], [["c"], ["a", "b"]]), [("a",), ("c",)])
        self.assertEqual(met([["a"], ["b"]], [["c"], ["b"]]), [("b",), ("a", "c")])
        self.assertEqual(hits([["a", "b"], ["b", "c"]]), [("b",), ("a", "c")])
        self.assertEqual(greatest(["c", "b", "a"], [["b", "a"], ["d"]]), [("a", "c"), ("b", "c")])

    def test_by_name_and_tuples(self):
        self.assertEqual(lot(sets=([1],)), [(1,)])
        self.assertIs(bears(sets=((1,),), some=(1, 2)), True)
        self.assertEqual(joined(one=([1],), other=([2],)), [(1,), (2,)])
        self.assertEqual(met(one=([1],), other=([2],)), [(1, 2)])
        self.assertEqual(hits(sets=((1, 2),)), [(1,), (2,)])
        self.assertEqual(greatest(things=(1, 2), sets=((1, 2),)), [(1,), (2,)])

    def test_no_sets_and_the_set_without_things(self):
        for none in ([], ()):
            self.assertEqual(lot(none), [])
            self.assertIs(bears(none, []), False)
            self.assertIs(bears(none, ["a"]), False)
            self.assertEqual(joined(none, none), [])
            self.assertEqual(joined(none, [["a"]]), [("a",)])
            self.assertEqual(met(none, none), [])
            self.assertEqual(met(none, [["a"]]), [])
            self.assertEqual(met([["a"]], none), [])
            self.assertEqual(hits(none), [()])
            self.assertEqual(greatest(none, none), [()])
            self.assertEqual(greatest(["b", "a"], none), [("a", "b")])
            self.assertEqual(lot([none]), [()])
            self.assertEqual(lot([["a"], none, ["b", "c"]]), [()])
            self.assertIs(bears([none], none), True)
            self.assertIs(bears([["a"], none], ["b"]), True)
            self.assertEqual(joined([none], [["a"]]), [()])
            self.assertEqual(met([none], [["a"], ["b", "c"]]), [("a",), ("b", "c")])
            self.assertEqual(hits([none]), [])
            self.assertEqual(hits([["a"], none]), [])
            self.assertEqual(greatest(["a"], [none]), [])
            self.assertEqual(greatest(none, [none]), [])
            self.assertEqual(greatest(none, [["a"]]), [()])

    def test_lots_and_joined(self):
        for things, kind in KINDS:
            for one, other in zip(some_sets(150, things, 1), some_sets(150, things, 2)):
                with self.subTest(kind):
                    self.is_lot(lot(one))
                    self.assertEqual(lot(one), least_of(in_lots(one)))
                    self.assertEqual(lot(lot(one)), lot(one))
                    self.assertEqual(joined(one, other), least_of(in_lots(one + other)))
                    self.assertEqual(joined(other, one), joined(one, other))

    def test_bears(self):
        for things, _ in KINDS:
            for sets in some_sets(60, things, 3):
                for some in all_sets(things):
                    right = any(set(one) <= set(some) for one in sets)
                    self.assertIs(bears(sets, list(some)[::-1]), right)
                    self.assertIs(bears(lot(sets), some), right)

    def test_met(self):
        for things, _ in KINDS:
            for one, other in zip(some_sets(150, things, 4), some_sets(150, things, 5)):
                told = met(one, other)
                self.is_lot(told)
                self.assertEqual(told, least_of(in_lots([*a, *set(b) - set(a)] for a in one for b in other)))
                self.assertEqual(met(other, one), told)

    def test_hits_against_all_sets(self):
        for things, _ in KINDS:
            for sets in some_sets(200, things, 6):
                told = hits(sets)
                self.is_lot(told)
                self.assertEqual(told, slow_hits(things, sets))

    def test_hits_there_and_back(self):
        for things, _ in KINDS:
            for one, other in zip(some_sets(150, things, 7), some_sets(150, things, 8)):
                self.assertEqual(hits(hits(one)), lot(one))
                self.assertEqual(hits(joined(one, other)), met(hits(one), hits(other)))
                self.assertEqual(hits(met(one, other)), joined(hits(one), hits(other)))

    def test_greatest_against_all_sets(self):
        for things, _ in KINDS:
            chance = random.Random(9)
            for sets in some_sets(200, things, 10):
                some = chance.sample(things, chance.randrange(6))
                told = greatest(some, sets)
                self.assertIs(type(told), list)
                self.assertEqual(told, slow_greatest(some, sets))
                within = [one for one in sets if set(one) <= set(some)]
                self.assertEqual(told, in_lots(set(some) - set(one) for one in hits(within)))

    def test_the_order_of_lots(self):
        sets = [["c"], ["ab", "b"], ["aa", "b"], ["a", "z"], ["a", "aa", "x"]]
        self.assertEqual(lot(sets), [("c",), ("a", "z"), ("aa", "b"), ("ab", "b"), ("a", "aa", "x")])
        self.assertEqual(lot([[100], [9, 10], [9, 8], [11, 2, 3]]), [(100,), (8, 9), (9, 10), (2, 3, 11)])
        self.assertEqual(greatest(range_of(4), [[0, 1, 2], [3, 0], [3, 1]]), [(0, 1), (0, 2), (1, 2), (2, 3)])

    def test_twelve_things(self):
        for things in (list(LETTERS[:12]), range_of(12)):
            pairs = [things[at:at + 2] for at in range(0, 12, 2)]
            self.assertEqual(hits(pairs), in_lots(itertools.product(*pairs)))
            self.assertEqual(len(hits([things])), 12)
            self.assertEqual(lot([things]), [tuple(things)])
            self.assertEqual(greatest(things, []), [tuple(things)])
            self.assertEqual(len(greatest(things, [things])), 12)
            self.assertEqual(met([things[:6]], [things[6:]]), [tuple(things)])
            self.assertIs(bears([things[:6]], things[5:]), False)
            self.assertIs(bears([things[6:]], things[5:]), True)

    def test_a_hundred_sets(self):
        halves = list(itertools.combinations(range(10), 5))
        hundred = halves[:100]
        self.assertEqual(lot(hundred[::-1]), hundred)
        self.assertEqual(lot([["a"]] * 100), [("a",)])
        self.assertEqual(joined(hundred, halves[100:200]), halves[:200])
        self.assertEqual(hits(hundred), slow_hits(range(10), hundred))
        self.assertEqual(greatest(range_of(10), hundred), slow_greatest(range(10), hundred))
        self.assertEqual(met(hundred, [()]), hundred)
        self.assertIs(bears(hundred, hundred[99]), True)
        # What is told may be more than a hundred sets.
        self.assertEqual(len(greatest(range_of(12), list(itertools.combinations(range(12), 2))[:6])),
                         len(slow_greatest(range(12), list(itertools.combinations(range(12), 2))[:6])))
        self.assertEqual(len(hits([range_of(10)[at:at + 2] for at in range(0, 10, 2)] + [[10, 11]])), 64)
        self.assertEqual(len(met(*[[[a, b] for a in half for b in half if a < b]
                                   for half in (range_of(6), [6, 7, 8, 9, 10, 11])])), 225)

    def test_what_is_handed_in_stays_and_what_is_told_is_new(self):
        sets, some = [["b", "a"], ["c"], ["a", "b"]], ["c", "b"]
        for call in (lambda: lot(sets), lambda: joined(sets, sets), lambda: met(sets, sets), lambda: hits(sets),
                     lambda: greatest(some, sets)):
            told = call()
            before = list(told)
            told.clear()
            self.assertEqual(call(), before)
        bears(sets, some)
        self.assertEqual((sets, some), ([["b", "a"], ["c"], ["a", "b"]], ["c", "b"]))


def range_of(many):
    """The numbers from 0 on, as a list."""
    return list(range(many))


class Wrong(Refusing):
    def test_wrong_things_in_each_place(self):
        self.all_of_it([
            (lot, {"sets": [["a"]]}, {"sets": "sets"}),
            (hits, {"sets": [[1]]}, {"sets": "sets"}),
            (bears, {"sets": [["a"]], "some": ["a"]}, {"sets": "sets"}),
            (joined, {"one": [["a"]], "other": [["b"]]}, {"one": "sets", "other": "sets"}),
            (met, {"one": [[1]], "other": [[2]]}, {"one": "sets", "other": "sets"}),
        ])
        for thing, _ in WRONG["sets"]:
            for call in (joined, met):
                self.refused(BadSets, call, thing, [])
                self.refused(BadSets, call, [], thing)
            self.refused(BadSets, bears, thing, [])
            self.refused(BadSets, greatest, [], thing)

    def test_what_is_no_set(self):
        no_sets = [thing[0] for thing in NO_SETS if isinstance(thing, list) and len(thing) == 1 and thing != [[()]]]
        self.assertGreater(len(no_sets), 25)
        for thing in no_sets + [[()], [["a"]], [("a",)]]:
            self.refused(BadSets, bears, [], thing)
            self.refused(BadSets, bears, some=thing, sets=[[]])
            self.refused(BadSets, greatest, thing, [])
            self.refused(BadSets, greatest, things=thing, sets=[[]])

    def test_names_and_numbers_in_one_call(self):
        for one, other in ((["a"], [1]), ([0], ["b"])):
            self.refused(BadSets, lot, [one, other])
            self.refused(BadSets, hits, [other, one])
            self.refused(BadSets, joined, [one], [other])
            self.refused(BadSets, met, [one], [other])
            self.refused(BadSets, bears, [one], other)
            self.refused(BadSets, greatest, one, [other])

    def test_thirteen_things_in_one_call(self):
        for things in (list(LETTERS[:13]), range_of(13)):
            one, other = things[:7], things[7:]
            self.refused(BadSets, lot, [one, other])
            self.refused(BadSets, hits, [[thing] for thing in things])
            self.refused(BadSets, joined, [one], [other])
            self.refused(BadSets, met, [one], [other])
            self.refused(BadSets, bears, [one], other)
            self.refused(BadSets, greatest, one, [other])
            for few in ([one, other[:-1]], [one[1:], other]):
                lot(few)
                hits(few)
                joined(few[:1], few[1:])
                met(few[:1], few[1:])
                bears(few[:1], few[1])
                greatest(few[0], few[1:])

    def test_a_hundred_and_one_sets_in_one_argument(self):
        for one in ([["a"]], [[]], [list("abc")]):
            hundred, more = one * 100, one * 101
            lot(hundred)
            hits(hundred)
            joined(hundred, hundred)
            met(hundred, hundred)
            bears(hundred, ["a"])
            greatest(["a"], hundred)
            for call in (lot, hits):
                self.refused(BadSets, call, more)
                self.refused(BadSets, call, tuple(more))
            for call in (joined, met):
                self.refused(BadSets, call, more, [])
                self.refused(BadSets, call, [], more)
            self.refused(BadSets, bears, more, ["a"])
            self.refused(BadSets, greatest, ["a"], more)


if __name__ == "__main__":
    unittest.main()

"""What the tests of refusals have in common."""

import copy
import itertools
import unittest

from groundlots.errors import BadName, BadNames, BadRanks, BadRules, BadSets, GroundError, NotPlain
from things import LETTERS, LISTS, NAMES, NEITHER, NO_BASES, NO_RANK, NO_RANKS, NO_SETS, NOT_PLAIN

NO_NAMES = [(thing, BadNames) for thing in NEITHER + NAMES + [list(LETTERS[:25]), tuple(LETTERS)]]

# For each kind of argument the things that are none, and what they are refused with.
WRONG = {
    "base": [(thing, BadRules) for thing in NO_BASES],
    "plain": [(thing, BadRules) for thing in NO_BASES] + [(thing, NotPlain) for thing in NOT_PLAIN],
    "names": NO_NAMES,
    "may": NO_NAMES + [(list(LETTERS[:11]), BadNames), (tuple(LETTERS[2:26]), BadNames)],
    "name": [(thing, BadName) for thing in NEITHER + LISTS],
    "goal": [(thing, BadName) for thing in NEITHER + LISTS if thing is not None],
    "sets": [(thing, BadSets) for thing in NO_SETS],
    "ranks": [(thing, BadRanks) for thing in NO_RANKS],
    "rank": [(thing, BadRanks) for thing in NO_RANK],
    "least": [(thing, BadRanks) for thing in NO_RANK if thing != 10],
}


class Refusing(unittest.TestCase):
    def refused(self, refusal, call, *things, **more):
        """The refusal of just this class, of which nothing that was handed in is changed."""
        before = copy.deepcopy((things, more))
        with self.assertRaises(GroundError, msg=(call, things, more)) as told:
            call(*things, **more)
        self.assertIs(told.exception.__class__, refusal, (call, things, more))
        self.assertEqual((things, more), before)
        return told.exception

    def each_place(self, call, good, kinds):
        """In each place each thing that is none of its kind; by place and by name."""
        for name, kind in kinds.items():
            for thing, refusal in WRONG[kind]:
                wrong = {**good, name: thing}
                self.refused(refusal, call, *wrong.values())
                self.refused(refusal, call, **wrong)

    def first_told(self, call, good, kinds):
        """Of two places where something is wrong, the first one's refusal, in any mix of refusals."""
        for one, other in itertools.combinations(kinds, 2):
            seen = {}
            for (thing, refusal), (more, later) in itertools.product(WRONG[kinds[one]], WRONG[kinds[other]]):
                if seen.setdefault((refusal, later), 0) < 5:
                    seen[(refusal, later)] += 1
                    self.refused(refusal, call, **{**good, one: thing, other: more})

    def all_of_it(self, calls):
        """Both of these for calls, each with its good things and their kinds, in the order of its arguments."""
        for call, good, kinds in calls:
            self.assertEqual(list(good), list(kinds) + list(good)[len(kinds):])
            call(*good.values())
            call(**good)
            self.each_place(call, good, kinds)
            self.first_told(call, good, kinds)

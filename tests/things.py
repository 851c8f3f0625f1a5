"""Things of every kind that may be handed in where a name, a list, a base or sets are wanted."""

import string

from groundlots.rules import Rule

LETTERS = string.ascii_lowercase

# None of these is a name, or a list of names.
NEITHER = [
    0, 1, -1, 7, 10 ** 30, True, False, None, "", "A", "a b", "not", "never", "may", "ninechars",
    [""], ["A"], [1], [True], [None], [[]], [["a"]], [()], [{}], [{"a": 1}], ["a", 1], ["a", "not"],
    ["never"], ["may"], ["a", "b", "a"], ["a", ""], ["a", ["b"]], ["ninechars"], ["a "], ["a\n"], [Rule("a")],
    ("A",), (1,), ((),), (("a",),), ("a", None), ("a", "a"), (Rule("a"), "a"),
    {}, {"a": 1}, {1: "a"}, {"a": "a", "b": "b"}, Rule("a"), Rule(None), Rule("a", ["b"], unless=["c"]),
]

# These are names, but no list of names.
NAMES = ["a", "z", "ab", "held", "abcdefgh", "no", "nota", "neve", "nevers", "ma", "mayb"]

# These are lists of names, but no names.
LISTS = [[], (), ["a"], ("a",), ["b", "a"], ("b", "a"), ["abcdefgh", "z"]]


def base_with(many):
    """Rules, six names a rule, in which just so many names stand."""
    return [Rule(None, list(LETTERS[at:min(at + 6, many)])) for at in range(0, many, 6)]


# None of these is a base.
NO_BASES = [thing for thing in NEITHER if thing != [Rule("a")]] + NAMES + [thing for thing in LISTS if thing] + [
    [Rule("a"), None], [None, Rule("a")], (Rule("a"), "a"), [Rule("a"), ("rule", "a", (), ())], [[Rule("a")]],
    {"a": Rule("a")}, [Rule("a").told()], [Rule("a"), True], [Rule("a")] * 41, [Rule(None)] * 41, (Rule("a"),) * 100,
    base_with(25), [Rule(letter) for letter in LETTERS[:25]], [Rule("a", unless=[letter]) for letter in LETTERS],
]

# These are bases, but of no plain rules.
NOT_PLAIN = [
    [Rule("a", unless=["b"])], (Rule("a"), Rule(None, ["b"], unless=["c"])), [Rule("a", ["b"], unless=["a"])] * 40,
    [Rule(None, unless=["a"])],
]

# None of these is a Rule.
NO_RULES = [thing for thing in NEITHER if not isinstance(thing, Rule)] + NAMES + LISTS + [
    Rule("a").told(), [Rule("a")], (Rule("a"),), "a <- b", {"a": Rule("a")},
]

# None of these is the number of one of three rules.
NO_NUMBERS = [
    0, -1, 4, 10 ** 30, True, False, None, "", "1", "a", [], [1], (), (1,), {}, {1: 1}, 1.5, [[1]], (True,), Rule("a"),
    Rule("a").told(),
]

# None of these is a list of sets, of names alone or numbers alone.
NO_SETS = [
    0, 1, -1, 7, True, False, None, "", "a", "ab", {}, {"a": 1}, {(): 1}, Rule("a"), Rule(None),
    ["a"], ("a",), [1], [True], [None], [{}], [{"a": 1}], [""], ["ab"], [Rule("a")], [[Rule("a")]], [["a"], None],
    [["a", "a"]], [[1, 1]], [("b", "a", "b")], [["A"]], [["not"]], [["ninechars"]], [[""]], [["a", ["b"]]], [[["a"]]],
    [[-1]], [[0, -1]], [[True]], [[False]], [[0, True]], [[None]], [["a", None]], [["a", 1]], [[1, "a"]],
    [["a"], [1]], [(0,), (), ("b",)], [["a"], "b"], [["a"], 1], [[1], 1], [[{}]], [[1], [[2]]], [[()]],
    [[1.5]], [["1"]], [list(range(13))], [tuple(LETTERS[:13])], [[one] for one in range(13)],
    [[letter] for letter in LETTERS[:13]], [[]] * 101, [["a"]] * 101, ([1],) * 101,
]

# None of these is a dict of ranks.
NO_RANKS = [thing for thing in NEITHER if thing not in ({}, {"a": 1})] + NAMES + LISTS + [
    {"a": 0}, {"a": 10}, {"a": -1}, {"a": 10 ** 30}, {"a": True}, {"a": False}, {"a": None}, {"a": "5"}, {"a": ""},
    {"a": [5]}, {"a": (5,)}, {"a": {}}, {"a": {"a": 5}}, {"a": Rule("a")}, {"a": 5, "b": 0}, {"a": 10, "b": 5},
    {"a": 5, "b": 5, "c": True}, {"A": 5}, {"": 5}, {"not": 5}, {"never": 5}, {"may": 5}, {"ninechars": 5}, {"a b": 5},
    {1: 5}, {True: 5}, {None: 5}, {(): 5}, {("a",): 5}, {"a": 5, 1: 5}, {"a": 5, "B": 5}, [("a", 5)], (("a", 5),),
    [{"a": 5}], ({"a": 5},), {letter: 5 for letter in LETTERS[:11]}, {letter: 1 for letter in LETTERS},
]

# None of these is a rank, a number from 1 to 9.
NO_RANK = [
    0, -1, 10, 11, 10 ** 30, -5, True, False, None, "", "5", "a", [], [5], (), (5,), {}, {"a": 5}, {5: 5}, Rule("a"),
    Rule(None), [True], ["a"], ("a", "b"),
]

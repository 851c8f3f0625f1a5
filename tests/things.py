"""Things of every kind that may be handed in where a name or a list of names is wanted."""

from groundlots.rules import Rule

# None of these is a name, or a list of names.
NEITHER = [
    0, 1, -1, 7, 10 ** 30, True, False, None, "", "A", "a b", "not", "never", "may", "ninechars",
    [""], ["A"], [1], [True], [None], [[]], [["a"]], [()], [{}], [{"a": 1}], ["a", 1], ["a", "not"],
    ["never"], ["may"], ["a", "b", "a"], ["a", ""], ["a", ["b"]], ["ninechars"], ["a "], ["a\n"], [Rule("a")],
    ("A",), (1,), ((),), (("a",),), ("a", None), ("a", "a"), (Rule("a"), "a"),
    {}, {"a": 1}, {1: "a"}, {"a": "a", "b": "b"}, Rule("a"), Rule(None), Rule("a", ["b"], unless=["c"]),
]

# These are names, but no list of names.
NAMES = ["a", "z", "ab", "held", "abcdefgh", "no", "nota", "neve", "nevers", "ma", "mayb"]

# These are lists of names, but no names.
LISTS = [[], (), ["a"], ("a",), ["b", "a"], ("b", "a"), ["abcdefgh", "z"]]

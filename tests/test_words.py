"""[10]: names and lists of names."""

import copy
import string
import unittest

from groundlots import words
from groundlots.errors import BadName, BadNames, GroundError
from groundlots.rules import Rule
from groundlots.words import is_name, is_names, wanted_name, wanted_names
from things import LISTS, NAMES, NEITHER

LETTERS = string.ascii_lowercase


class IsName(unittest.TestCase):
    def yes(self, thing):
        self.assertIs(is_name(thing), True, repr(thing))

    def no(self, thing):
        self.assertIs(is_name(thing), False, repr(thing))

    def test_it_is_defined_in_words(self):
        self.assertEqual(words.is_name.__module__, "groundlots.words")

    def test_by_place_and_by_name(self):
        self.assertIs(is_name("a"), True)
        self.assertIs(is_name(thing="a"), True)
        self.assertIs(is_name(thing=1), False)

    def test_each_letter_is_a_name(self):
        for letter in LETTERS:
            self.yes(letter)

    def test_each_letter_may_stand_anywhere(self):
        for letter in LETTERS:
            for at in range(8):
                self.yes("q" * at + letter + "q" * (7 - at))

    def test_one_to_eight_letters(self):
        for many in range(1, 9):
            self.yes("abcdefgh"[:many])
            self.yes("z" * many)

    def test_no_letters_and_more_than_eight(self):
        self.no("")
        for many in (9, 10, 16, 24, 100, 6000):
            self.no("a" * many)
        self.no("abcdefghi")

    def test_the_words_that_are_none(self):
        for word in ("not", "never", "may"):
            self.no(word)

    def test_the_words_with_a_letter_more_or_less(self):
        for word in ("not", "never", "may"):
            for letter in LETTERS:
                for at in range(len(word) + 1):
                    self.yes(word[:at] + letter + word[at:])
            for at in range(len(word)):
                self.yes(word[:at] + word[at + 1:])
                self.yes(word[:at] + "x" + word[at + 1:])
        self.yes("notnot")
        self.yes("maynot")

    def test_great_letters(self):
        for letter in string.ascii_uppercase:
            for text in (letter, "a" + letter, letter + "a", "aa" + letter + "aa", "abcdefg" + letter):
                self.no(text)
        for text in ("NOT", "Never", "maY", "ABC"):
            self.no(text)

    def test_other_signs_anywhere(self):
        others = [chr(code) for code in range(32, 127) if chr(code) not in LETTERS + "%"] + ["\n", "\t"]
        for sign in others:
            for text in (sign, sign + "a", "a" + sign, "a" + sign + "b", "abcdefg" + sign, sign + "abcdefg",
                         "abcdefgh" + sign):
                self.no(text)

    def test_figures_blanks_and_line_feeds(self):
        for text in ("a1", "1a", "1", " a", "a ", "a b", "a\n", "\na", "a\nb", "\n", " ", "not ", " may", "never\n"):
            self.no(text)

    def test_what_is_no_text(self):
        for thing in (0, 1, -1, 7, 10 ** 30, True, False, None, [], ["a"], [["a"]], (), ("a",), {}, {"a": "b"},
                      {"a": 1}, Rule("a"), Rule(None, ["b"]), [Rule("a")]):
            self.no(thing)

    def test_things_of_every_kind(self):
        for thing in NAMES:
            self.yes(thing)
        for thing in NEITHER + LISTS:
            self.no(thing)

    def test_what_is_handed_in_stays(self):
        thing = ["a", {"b": ["c"]}]
        before = copy.deepcopy(thing)
        is_name(thing)
        self.assertEqual(thing, before)


class ListsOfNames(unittest.TestCase):
    def yes(self, thing, *more):
        self.assertIs(is_names(thing, *more), True, repr(thing))

    def no(self, thing, *more):
        self.assertIs(is_names(thing, *more), False, repr(thing))

    def test_lists_and_tuples(self):
        for thing in LISTS:
            self.yes(thing)

    def test_what_is_no_list_of_names(self):
        for thing in NEITHER + NAMES:
            self.no(thing)

    def test_any_order(self):
        for thing in (["a", "b", "c"], ["c", "b", "a"], ["b", "c", "a"]):
            self.yes(thing)
            self.yes(tuple(thing))

    def test_a_name_twice(self):
        for thing in (["a", "a"], ["a", "b", "a"], ["b", "a", "a"], ("a", "a")):
            self.no(thing)

    def test_at_most_24(self):
        self.yes(list(LETTERS[:24]))
        self.yes(tuple(LETTERS[2:]))
        self.no(list(LETTERS[:25]))
        self.no(tuple(LETTERS))
        self.no(list(LETTERS[:23]) + ["a"] * 2)

    def test_at_most_so_many(self):
        self.yes(list("abc"), 3)
        self.no(list("abcd"), 3)
        self.yes([], 0)


class Wanted(unittest.TestCase):
    def test_a_name(self):
        for thing in NAMES:
            self.assertEqual(wanted_name(thing), thing)

    def test_no_name(self):
        for thing in NEITHER + LISTS:
            with self.assertRaises(GroundError) as told:
                wanted_name(thing)
            self.assertIs(told.exception.__class__, BadName)

    def test_a_list_of_names_in_its_order(self):
        for thing in LISTS:
            self.assertEqual(wanted_names(thing), tuple(thing))
        self.assertEqual(wanted_names(list("cab"), 3), ("c", "a", "b"))

    def test_no_list_of_names(self):
        for thing in NEITHER + NAMES + [list(LETTERS[:25])]:
            with self.assertRaises(GroundError) as told:
                wanted_names(thing)
            self.assertIs(told.exception.__class__, BadNames)
        with self.assertRaises(BadNames):
            wanted_names(list("abcd"), 3)

    def test_changing_the_list_later_changes_nothing(self):
        names = ["b", "a"]
        told = wanted_names(names)
        names.append("c")
        self.assertEqual(told, ("b", "a"))


if __name__ == "__main__":
    unittest.main()

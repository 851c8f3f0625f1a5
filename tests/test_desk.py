"""[120]: the desk, what it answers to rows, and what it refuses."""

import random
import unittest

from groundlots import desk as file
from groundlots.change import given_up
from groundlots.contexts import contexts, in_all, in_some, repairs
from groundlots.desk import Desk, answers
from groundlots.errors import GroundError
from groundlots.network import Network
from groundlots.ranks import best, firm
from groundlots.texts import read_rule
from things import LETTERS, LISTS, NAMES, NEITHER
from walks import is_least_paper

WORDS_ALONE = "back again against repairs contexts best touched all some idle rules".split()
WORDS_OF_A_NAME = "may unmay label lacking firm off".split()
WORDS = WORDS_ALONE + WORDS_OF_A_NAME + ["tell", "drop", "rank", "held", "why"]
RULES = ["c <- a", "c <- b", "never a, b", "d <- c, e", "never d", "a <- d", "e", "d <- b, a", "x", "never x, e",
         "b <- e", "never c, f", "never"]


CHAINS = ["c <- a", "d <- c", "e <- d, b", "c <- b", "g <- e", "e <- f, c", "d <- f", "never g, f", "g <- c, d",
          "a <- e"]


def in_words(things, nothing):
    return " ".join(str(one) for one in things) or nothing


def sets_in_words(sets):
    return " | ".join(in_words(one, "-") for one in sets) or "none"


class Model:
    """What a desk should answer, by the functions asked directly."""

    def __init__(self):
        self.net = Network()
        self.ranks = {}

    def rules(self):
        return [rule for _, rule in self.net.rules()]

    def now(self):
        return {name: self.ranks.get(name, 5) for name in self.net.may()}

    def right(self, row):
        """The answer to a row that is built as one of the document's."""
        try:
            return self.asked(*row.split())
        except GroundError as refusal:
            return f"refused {type(refusal).__name__.lower()}"

    def asked(self, word, *more):
        net, may, rules = self.net, self.net.may(), self.rules()
        names, sets = lambda things: in_words(things, "none"), sets_in_words
        return {
            "tell": lambda: str(net.tell(read_rule(" ".join(more)))), "drop": lambda: str(net.drop(int(more[0]))),
            "may": lambda: net.assume(more[0]) or "ok", "unmay": lambda: net.unassume(more[0]) or "ok",
            "back": lambda: net.back() or "ok", "again": lambda: net.again() or "ok", "rank": lambda: self.rank(*more),
            "label": lambda: sets(net.label(more[0])), "lacking": lambda: sets(net.lacking(more[0])),
            "against": lambda: sets(net.contradictions()), "repairs": lambda: sets(repairs(rules, may)),
            "contexts": lambda: sets(contexts(rules, may)), "best": lambda: sets(best(rules, self.now())),
            "held": lambda: names(net.held(more)), "touched": lambda: names(net.touched()),
            "all": lambda: names(in_all(rules, may)), "some": lambda: names(in_some(rules, may)),
            "idle": lambda: names(net.idle()), "firm": lambda: str(firm(rules, self.now(), more[0])),
            "off": lambda: in_words(given_up(rules, self.now(), more[0]), "-"),
            "rules": lambda: "; ".join(f"{number} {rule}" for number, rule in net.rules()) or "none",
        }[word]()

    def rank(self, name, number):
        if name not in self.net.may():
            return "refused notthere"
        if not 1 <= int(number) <= 9:
            return "refused badranks"
        self.ranks[name] = int(number)
        return "ok"


def some_row(chance, model):
    """A row that is built as one of the document's, but for `why`."""
    word = chance.choice(WORDS[:-1] + ["tell"] * 6 + ["may"] * 8 + ["rank"] * 4 + ["drop", "held", "touched", "off"])
    name = chance.choice("abcdefxz")
    if word in WORDS_ALONE:
        return word
    more = {"tell": chance.choice(RULES + ["c <- not a", "a a", "x y <- b", "A", "<- a", "a <-"]),
            "drop": str(chance.choice([number for number, _ in model.net.rules()] + [0, 999])),
            "rank": f"{name} {chance.choice([0, 1, 3, 5, 7, 9, 10, 999])}",
            "held": " ".join(chance.choice(["abcd", model.net.may(), "aa"])[:chance.randrange(4)])}.get(word, name)
    return f"{word} {more}"


def told_by(desk):
    """All that a desk tells, but of what can be taken back and done again."""
    rows = WORDS_ALONE[2:] + [f"{word} {name}" for word in WORDS_OF_A_NAME[2:] for name in "abcdez"]
    return [desk.answer(row) for row in rows + ["held", "why a by"]]


class Ordinary(unittest.TestCase):
    def test_where_these_are_defined(self):
        self.assertEqual((Desk.__module__, answers.__module__), (file.__name__, file.__name__))
        self.assertIn("answer", vars(Desk))

    def test_rows_and_answers(self):
        asked = [
            ("may rain", "ok"), ("may hose", "ok"), ("may dry", "ok"), ("touched", "dry"), ("rules", "none"),
            ("tell wet <- rain", "1"), ("tell wet<-hose", "2"), ("tell never rain,hose", "3"),
            ("tell never wet, dry", "4"),
            ("rules", "1 wet <- rain; 2 wet <- hose; 3 never rain, hose; 4 never wet, dry"),
            ("label wet", "hose | rain"), ("lacking wet", "dry"), ("label z", "none"),
            ("lacking z", "dry | hose | rain"),
            ("against", "dry hose | dry rain | hose rain"), ("repairs", "dry hose | dry rain | hose rain"),
            ("contexts", "dry | hose | rain"), ("best", "dry | hose | rain"), ("rank dry 3", "ok"),
            ("best", "hose | rain"), ("all", "none"), ("some", "dry hose rain wet"), ("held rain", "rain wet"),
            ("held", "none"), ("held hose dry", "dry hose wet"), ("why wet by rain", "1"), ("why wet by hose dry", "2"),
            ("why dry by dry", "-"), ("firm wet", "0"), ("off wet", "hose rain"), ("off z", "-"), ("idle", "none"),
            ("tell wet <- rain", "5"), ("idle", "1 5"), ("drop 3", "never rain, hose"), ("touched", "none"),
            ("firm wet", "5"), ("rank rain 9", "ok"), ("firm wet", "9"), ("all", "none"), ("unmay dry", "ok"),
            ("all", "hose rain wet"), ("contexts", "hose rain"), ("repairs", "-"), ("against", "none"), ("back", "ok"),
            ("contexts", "dry | hose rain"), ("again", "ok"), ("touched", "dry"), ("tell wet", "6"), ("label wet", "-"),
            ("lacking wet", "none"), ("firm wet", "10"), ("why wet by", "6"), ("tell never", "7"), ("contexts", "none"),
            ("all", "none"), ("drop 6", "wet"),
        ]
        desk = Desk()
        for row, right in asked:
            self.assertEqual(desk.answer(row), right, row)
        self.assertEqual(answers("\n".join(row for row, _ in asked)), [right for _, right in asked])

    def test_papers_of_several_rules(self):
        desk = Desk()
        for row in ("tell z", "may a", "tell c <- b", "tell b <- a", "tell d <- c, z", "drop 1", "tell z <- a"):
            desk.answer(row)
        self.assertEqual(desk.answer("why c by a"), "3 2")
        self.assertIn(desk.answer("why d by a"), ["3 2 5 4", "5 3 2 4", "3 5 2 4"])

    def test_by_name(self):
        self.assertEqual(Desk().answer(row="rules"), "none")
        self.assertEqual(answers(text="rules\nback"), ["none", "refused nodeed"])

    def test_kinds_of_what_is_told(self):
        told = answers("rules\n\nmay a\nzzz\nback")
        self.assertEqual((type(told), {type(one) for one in told}), (list, {str}))


class AgainstTheFunctions(unittest.TestCase):
    def test_long_histories(self):
        found = {}
        for seed in range(40):
            chance = random.Random(seed)
            desk, model, asked = Desk(), Model(), []
            for _ in range(80):
                row = some_row(chance, model)
                right = model.right(row)
                self.assertEqual(desk.answer(row), right, row)
                asked.append((row, right))
                kind = right if right.startswith("refused") else row.split()[0]
                found[kind] = found.get(kind, 0) + 1
            self.assertEqual(answers("\n".join(row for row, _ in asked)), [right for _, right in asked])
        self.assertEqual(sorted(kind for kind in found if kind.startswith("refused")), [
            "refused badnames", "refused badranks", "refused needed", "refused nodeed", "refused norule",
            "refused notext", "refused notplain", "refused notthere", "refused twice"])
        self.assertEqual(sorted(kind for kind in found if not kind.startswith("refused")), sorted(WORDS[:-1]))
        self.assertGreater(min(found.values()), 5)

    def test_why(self):
        found = {"ground": 0, "none": 0, "one": 0, "more": 0}
        for seed in range(40):
            chance = random.Random(seed)
            desk, net = Desk(), Network()
            for letter in "abf":
                net.assume(letter)
                desk.answer(f"may {letter}")
            for rule in chance.choices(CHAINS, k=12):
                self.assertEqual(desk.answer(f"tell {rule}"), str(net.tell(read_rule(rule))))
            for number in chance.sample(range(1, 13), 3):
                self.assertEqual(desk.answer(f"drop {number}"), str(net.drop(number)))
            rules, numbers = [rule for _, rule in net.rules()], [number for number, _ in net.rules()]
            for name in "abcdefgz":
                some = chance.sample("abf", chance.randrange(4))
                told = desk.answer(f"why {name} by {' '.join(some)}")
                if name not in net.held(some):
                    self.assertEqual(told, "refused notheld")
                    found["none"] += 1
                    continue
                self.assertEqual(told == "-", name in some)
                paper = [] if told == "-" else [numbers.index(int(number)) for number in told.split()]
                self.assertTrue(is_least_paper(rules, some, name, paper))
                found["ground" if not paper else "one" if len(paper) == 1 else "more"] += 1
        self.assertGreater(min(found.values()), 20)

    def test_what_is_refused_or_not_understood_changes_nothing(self):
        for seed in range(10):
            chance = random.Random(seed)
            desk, model = Desk(), Model()
            for _ in range(40):
                row = some_row(chance, model)
                desk.answer(row)
                model.right(row)
            before = told_by(desk)
            for row in ("tell a <- not b", "tell a b", "drop 0", "may A", "may a b", "rank zz 3", "rank a 0",
                        "unmay zz", "label A", "held zz", "held zz zz", "why a by zz", "why zz by", "off", "zz", "",
                        "  ", "rank a 10"):
                desk.answer(row)
            self.assertEqual(told_by(desk), before)
            self.assertEqual([desk.answer("back"), desk.answer("again")], [model.right("back"), model.right("again")])


class Rows(unittest.TestCase):
    def test_blanks_at_the_ends_and_between(self):
        rows = ["  may   a  ", " tell  c<-a ,b ", " label    c", "may b", "label  c   ", "   rank b   7 ",
                " why c by b  a ", "held   b  a"]
        self.assertEqual(answers("\n".join(rows)), ["ok", "1", "none", "ok", "a b", "ok", "1", "a b c"])

    def test_rows_without_words(self):
        self.assertEqual((Desk().answer(""), Desk().answer(" "), Desk().answer("     ")), ("", "", ""))
        self.assertEqual(answers(""), [""])
        self.assertEqual(answers("\n"), ["", ""])
        self.assertEqual(answers("may a\n\n  \nall"), ["ok", "", "", "a"])

    def test_what_stands_behind_the_last_line_feed_is_a_row(self):
        self.assertEqual(answers("may a\nall"), ["ok", "a"])
        self.assertEqual(answers("may a\nall\n"), ["ok", "a", ""])
        self.assertEqual(answers("may a\nall\n\n"), ["ok", "a", "", ""])

    def test_a_tabulator_is_no_blank(self):
        self.assertEqual(answers("\t\nmay\ta\nmay a\t\nrules\t\ntell a\t\n\tmay a\nmay a\ntell c <-\ta"),
                         ["what", "what", "what", "what", "refused notext", "what", "ok", "refused notext"])

    def test_a_line_feed_in_a_row(self):
        self.assertEqual([Desk().answer(row) for row in ("may a\n", "\n", "rules\n", "tell a\n", "rules\nrules")],
                         ["what", "what", "what", "refused notext", "what"])

    def test_one_word_too_few_or_too_many(self):
        for word in WORDS_ALONE:
            for more in ("a", "a b", "1", "by", ","):
                self.assertEqual(Desk().answer(f"{word} {more}"), "what", word)
        for word in WORDS_OF_A_NAME:
            for more in ("", "a b", "a a", "a 1", "a ,"):
                self.assertEqual(Desk().answer(f"{word} {more}"), "what", word)
        for row in ("tell", "drop", "drop 1 1", "drop 1 a", "rank", "rank a", "rank 5", "rank a 5 5", "rank a b",
                    "rank 5 a", "rank a 5 a", "why", "why a", "why by", "why by a", "why a b", "why a of b",
                    "why a b by c", "why a By b", "why a, by b"):
            self.assertEqual(answers(f"may a\ntell a\n{row}")[2], "what", row)

    def test_words_that_are_no_names(self):
        for thing in ("A", "aB", "not", "never", "may", "1", "ninechars", "a,", "-", "a1", "<-", "a|b", "a.", "_"):
            for word in WORDS_OF_A_NAME + ["held"]:
                self.assertEqual(Desk().answer(f"{word} {thing}"), "what", (word, thing))
            for row in (f"held a {thing}", f"held {thing} a", f"rank {thing} 5", f"why {thing} by a",
                        f"why a by {thing}", f"why a by a {thing}"):
                self.assertEqual(answers(f"may a\n{row}")[1], "what", row)

    def test_words_of_rows_are_names_as_well(self):
        self.assertEqual(answers("may by\ntell by <- all\nmay all\nwhy by by by\nwhy by by all\nlabel by\nheld all by"),
                         ["ok", "1", "ok", "-", "1", "all | by", "all by"])
        self.assertEqual(answers("may tell\nlabel tell\ntell tell\nlabel tell"), ["ok", "tell", "1", "-"])

    def test_other_words(self):
        for row in ("Tell a", "TELL a", "assume a", "unassume a", "untell 1", "contradictions", "labels", "in_all",
                    "maya", "may,a", "tell,a", "what", "refused", "none", "never a, b", "a <- b", "log", "twin", "5",
                    ",", "<-", "how a by b", "label a by", "by a by", "held1 a", "-", "by", "why_not", "kernels"):
            self.assertEqual(Desk().answer(row), "what", row)

    def test_things_that_are_no_row(self):
        for thing in NEITHER + LISTS:
            if not isinstance(thing, str):
                self.assertEqual(Desk().answer(thing), "what")
        for thing in NAMES:
            self.assertEqual(Desk().answer(thing), "none" if thing == "held" else "what")

    def test_rules_of_one_word_at_least(self):
        self.assertEqual([Desk().answer(row) for row in ("tell", "tell  ", "tell ,", "tell <-", "tell a <-", "tell not",
                                                         "tell may a", "tell a, b", "tell never,", "tell A")],
                         ["what", "what"] + ["refused notext"] * 8)
        self.assertEqual([Desk().answer(row) for row in ("tell a", "tell never", "tell a<-b,c", "tell a <- not b")],
                         ["1", "1", "1", "refused notplain"])

    def test_numbers_of_one_to_three_figures(self):
        rows = ["drop 0", "drop 1", "drop 01", "drop 001", "drop 00", "drop 1000", "drop 0001", "drop +1", "drop -1",
                "drop 1.0", "drop 1a", "drop a", "drop 999", "drop 100", "drop 10"]
        for row in rows:
            right = "what" if row in rows[2:12] else "a" if row == "drop 1" else "refused norule"
            self.assertEqual(answers(f"tell a\n{row}")[1], right, row)
        ranks = {"0": "refused badranks", "1": "ok", "9": "ok", "10": "refused badranks", "100": "refused badranks",
                 "999": "refused badranks", "05": "what", "00": "what", "1000": "what", "-1": "what", "5a": "what"}
        for word, right in ranks.items():
            self.assertEqual(answers(f"may a\nrank a {word}")[1], right, word)
            self.assertEqual(answers(f"rank a {word}")[0], "what" if right == "what" else "refused notthere", word)

    def test_rules_of_greater_numbers(self):
        desk = Desk()
        for number in range(1, 102):
            self.assertEqual(desk.answer("tell a"), str(number))
            if number < 101:
                self.assertEqual(desk.answer(f"drop {number}"), "a")
        self.assertEqual((desk.answer("rules"), desk.answer("drop 101")), ("101 a", "a"))


class Ranks(unittest.TestCase):
    def test_where_none_was_told_it_is_5(self):
        self.assertEqual(answers("may a\nfirm a\nrank a 7\nfirm a\nmay b\nfirm b")[1::2], ["5", "7", "5"])

    def test_those_of_names_that_are_assumed_no_more_are_kept(self):
        self.assertEqual(answers("may a\nrank a 7\nunmay a\nfirm a\nrank a 3\nmay a\nfirm a\nbest"),
                         ["ok", "ok", "ok", "0", "refused notthere", "ok", "7", "a"])

    def test_ranks_are_no_deeds(self):
        self.assertEqual(answers("may a\nrank a 7\nback\nagain\nfirm a\nrank a 2\nback\nback\nagain\nfirm a"),
                         ["ok", "ok", "ok", "ok", "7", "ok", "ok", "refused nodeed", "ok", "2"])
        self.assertEqual(answers("may a\nback\nmay a\nback\nagain\nrank a 3\nback\nagain\nfirm a")[-1], "3")
        self.assertEqual(answers("may a\nmay b\nback\nrank a 3\nagain\ntouched")[-2:], ["ok", "b"])

    def test_of_ten_names(self):
        rows = [f"may {letter}" for letter in LETTERS[:10]] + [f"rank {letter} 9" for letter in LETTERS[:10]]
        more = ["unmay a", "may k", "best", "may a"]
        self.assertEqual(answers("\n".join(rows + more))[20:], ["ok", "ok", "b c d e f g h i j k", "refused toomany"])

    def test_each_desk_has_its_own(self):
        one, other = Desk(), Desk()
        for desk, rank in ((one, 2), (other, 8)):
            desk.answer("may a")
            desk.answer(f"rank a {rank}")
        self.assertEqual((one.answer("firm a"), other.answer("firm a"), Desk().answer("firm a")), ("2", "8", "0"))


class RefusedRows(unittest.TestCase):
    def test_each_refusal(self):
        asked = {
            "tell a <- b b": "notext", "tell c <- not d": "notplain", "drop 9": "norule", "may a": "twice",
            "unmay z": "notthere", "rank z 5": "notthere", "rank a 10": "badranks", "rank z 10": "notthere",
            "held a a": "badnames", "held b z y": "notthere", "again": "nodeed", "why c by a a": "badnames",
            "why c by a z": "notthere", "why c by b": "notheld", "off e": "needed", "held z z": "badnames",
        }
        for row, right in asked.items():
            told = answers(f"may a\nmay b\ntell c <- a\ntell e\n{row}")
            self.assertEqual(told, ["ok", "ok", "1", "2", f"refused {right}"], row)
        self.assertEqual(answers("back"), ["refused nodeed"])

    def test_too_many(self):
        assumed = "\n".join(f"may {letter}" for letter in LETTERS[:11])
        self.assertEqual(answers(assumed), ["ok"] * 10 + ["refused toomany"])
        self.assertEqual(answers("\n".join(["tell a"] * 41))[39:], ["40", "refused toomany"])
        rows = "\n".join(f"tell {letter}" for letter in LETTERS[:24])
        self.assertEqual(answers(f"{rows}\ntell y\nmay y\nmay x")[24:], ["refused toomany", "refused toomany", "ok"])

    def test_many_words(self):
        self.assertEqual(Desk().answer("held " + " ".join(LETTERS[:24])), "refused notthere")
        self.assertEqual(Desk().answer("held " + " ".join(LETTERS[:25])), "refused badnames")
        self.assertEqual(Desk().answer("why a by " + " ".join(LETTERS[:25])), "refused badnames")

    def test_no_context(self):
        rows = ["may a", "tell never", "against", "repairs", "contexts", "best", "all", "some", "label a", "lacking b",
                "firm a", "off a", "rules"]
        self.assertEqual(answers("\n".join(rows)), ["ok", "1", "-"] + ["none"] * 7 + ["0", "a", "1 never"])


if __name__ == "__main__":
    unittest.main()

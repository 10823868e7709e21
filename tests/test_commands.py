"""[95], [97], [98]: names, commands and deeds by their words alone."""

import math
import random
import re
import unittest

from producttables.commands import is_command, is_deed, is_name
from producttables.ratios import Ratio
from support import KINDS, Case

NAME = "[a-z][a-z0-9]{0,7}"
COUNT = "(?:0|[1-9][0-9]?)"
NUMBER = "(?:(?:0|-?[1-9][0-9]{0,5})(?:/[1-9][0-9]{0,5})?)"
ARROW = "[0-9]-[0-9]"
ORDER = "[0-9]{1,6}"


def words(told):
    """A pattern: N for a name, C a COUNT, R a NUMBER, A an arrow, O an order; a star or plus behind: many of them."""
    found = []
    for word in told.split():
        one = {"N": NAME, "C": COUNT, "R": NUMBER, "A": ARROW, "O": ORDER}.get(word[0] if word[0].isupper() else "", word)
        found.append(f"(?: {one}){word[1:]}" if word[0].isupper() else " " + one)
    return re.compile("".join(found)[1:] if not told[0].isupper() else "".join(found))


DEEDS = [
    "numbers N C", "upper N C", "noughts N C", "powers N R+", "four N R R", "web N C A*", "group N O+", "beside N N N",
    "crossed N N N", "turned N N", "withone N N", "within N N", "behind N N", "mixture N N R+", "one N N", "times N N N",
    "added N N N", "scaled N N R", "undone N N", "amount N C R", "part N N+", "dying N N", "middle N N", "living N N",
    "block N N C", "side N N", "closed N N", "room N N", "both N N N", "drop N", "forget N",
] + [f"claim N {word} N" for word in ("dies", "lives", "undone", "kills", "simple", "parted", "closed", "open", "split",
                                      "held")]
OTHERS = [
    "undo", "redo", "state N", "states", "claimed N", "names", "show N", "size N", "trace N", "least N", "full N",
    "power N", "sizes N", "traces N", "lots N", "same N N",
]
DEED_PATTERNS = [words(told) for told in DEEDS]
OTHER_PATTERNS = [words(told) for told in OTHERS]


def in_lowest_terms(text):
    for top, bottom in re.findall(r"(-?[0-9]+)/([0-9]+)", text):
        if bottom == "1" or math.gcd(int(top), int(bottom)) != 1:
            return False
    return True


def judged(value):
    """Whether a value is a command, and whether it is a deed."""
    if type(value) is not str or not in_lowest_terms(value):
        return False, False
    deed = any(pattern.fullmatch(value) for pattern in DEED_PATTERNS)
    return deed or any(pattern.fullmatch(value) for pattern in OTHER_PATTERNS), deed


def right_commands(seed):
    """Some commands of each kind."""
    seeded = random.Random(seed)
    some = {
        "N": ["a", "t1", "abcdefgh", "z9999999", "undo", "times", "x"], "C": ["0", "1", "2", "9", "10", "99"],
        "R": ["0", "1", "-1", "-3/2", "999999", "-999999/999983", "1/999999", "12"], "A": ["0-1", "1-0", "9-9", "2-3"],
        "O": ["0", "012", "102345", "999999", "21"],
    }
    for told in DEEDS + OTHERS:
        found = []
        for word in told.split():
            if not word[0].isupper():
                found.append(word)
                continue
            many = 1 if len(word) == 1 else seeded.randint(1 if word[1] == "+" else 0, 4)
            found += [seeded.choice(some[word[0]]) for _ in range(many)]
        yield " ".join(found)


class Names(Case):
    def test_told(self):
        for value, wanted in [
                ("a", True), ("abcdefgh", True), ("abcdefghi", False), ("", False), ("a1", True), ("1a", False), ("A", False),
                ("aB", False), ("a b", False), ("a_", False), ("a-", False), ("a\n", False), ("\na", False), (" a", False),
                ("a0000000", True), ("z9", True), ("-", False), ("undo", True), ("true", True), (b"a", False), (["a"], False),
                (("a",), False), (None, False), (1, False), ("0", False), ("{a", False), ("`a", False), ("a.", False),
                ("a/", False), ("a:", False), ("claim", True)]:
            self.assertIs(is_name(value), wanted, value)
            self.assertIs(is_name(value=value), wanted)

    def test_any_value(self):
        self.tells(is_name, lambda value: type(value) is str and re.fullmatch(NAME, value))
        for sign in [chr(at) for at in range(32, 127) if chr(at) != "%"] + ["\n"]:
            self.assertIs(is_name(sign), bool(re.fullmatch("[a-z]", sign)))
            self.assertIs(is_name("a" + sign), bool(re.fullmatch("[a-z0-9]", sign)))


class Commands(Case):
    def check(self, value):
        command, deed = judged(value)
        self.assertIs(is_command(value), command, value)
        self.assertIs(is_deed(value), deed, value)
        return command, deed

    def test_right_ones(self):
        for seed in range(8):
            found = list(right_commands(seed))
            self.assertEqual([self.check(value) for value in found], [(True, True)] * len(DEEDS) + [(True, False)] * len(OTHERS))
        self.assertEqual(len(DEEDS), 41)
        self.assertEqual(len(OTHERS), 16)
        self.assertIs(is_command(value="undo"), True)
        self.assertIs(is_deed(value="drop a"), True)

    def test_bent_ones(self):
        seen = {True: 0, False: 0}
        others = ["", "a", "A", "0", "1", "-1", "1/2", "2/4", "01", "0-1", "012", "dies", "open", "100", "1000000",
                  "1/1000000", "-0", "1/1", "0/2", "abcdefghi", "undo", "names", "1-", "-", "1/0", "a-1", "1-a"]
        for seed in range(3):
            for value in right_commands(seed):
                told = value.split(" ")
                for at in range(len(told)):
                    ahead, word, behind = told[:at], told[at], told[at + 1:]
                    for bent in ([*ahead, *behind], [*ahead, word, word, *behind], [*ahead, "", word, *behind],
                                 [*ahead, *behind[:1], word, *behind[1:]], [*ahead, word.upper(), *behind],
                                 [*ahead, word[:-1], *behind], [*ahead, word + "0", *behind], [*ahead, word + "\n", *behind],
                                 *[[*ahead, other, *behind] for other in others],
                                 *[[*ahead, word, other, *behind] for other in others]):
                        seen[self.check(" ".join(bent))[0]] += 1
                for bent in (value + " ", " " + value, value + "\n", value.replace(" ", "\t", 1), value.replace(" ", "", 1),
                             value.replace(" ", "  ", 1), value + "." + value, value.upper(), value.replace(" ", "\n", 1)):
                    seen[self.check(bent)[0]] += 1
        self.assertGreater(min(seen.values()), 1000)

    def test_told(self):
        for value, wanted in [
                ("mixture a t 1 0 -3/2", "deed"), ("four q 1", None), ("web w 2 0-1", "deed"), ("web w 2", "deed"),
                ("group g 012 021", "deed"), ("group g", None), ("undo", "other"), ("redo", "other"), ("undo a", None),
                ("numbers n 2", "deed"), ("numbers n 02", None), ("numbers n 100", None), ("numbers n -1", None),
                ("numbers n 1/2", None), ("numbers n", None), ("numbers n 0", "deed"), ("numbers n 00", None),
                ("powers p", None), ("powers p 1000000", None), ("powers p 999999/999998", "deed"), ("powers p 2/4", None),
                ("powers p 1/1000000", None), ("powers p -1000000", None), ("powers p -999999", "deed"),
                ("powers p" + " 1" * 60, "deed"), ("four q 0 0", "deed"), ("four q 1 2 3", None), ("web w 2 0-12", None),
                ("web w 2 0-", None), ("web w 2 (0,1)", None), ("web w 2 -0-1", None), ("web w 2 a-1", None), ("web w 2 1-a", None),
                ("web w 2 a-b", None), ("web w 2 0 1", None), ("web w 2 0+1", None), ("web w 2 011", None), ("group g 0123456", None),
                ("group g 0-1", None), ("group g 987", "deed"), ("part p", None), ("part p a", "deed"),
                ("part p a a a", "deed"), ("claim c dies a", "deed"), ("claim c dead a", None), ("claim c alike a", None),
                ("claim c unlike a b", None), ("claim c dies", None), ("claim dies a", None), ("claim c dies a b", None),
                ("claim dies dies dies", "deed"), ("claim 1 dies a", None), ("claim c dies 1", None),
                ("claim c open a", "deed"), ("forget c", "deed"), ("drop c", "deed"), ("amount a 0 1", "deed"),
                ("amount a 1/2 1", None), ("amount a -1 1", None), ("amount a 99 0", "deed"), ("block b t 7", "deed"),
                ("block b t", None), ("same a b", "other"), ("same a", None), ("states", "other"), ("states a", None),
                ("names", "other"), ("state a", "other"), ("state", None), ("size a", "other"), ("", None), (" ", None),
                ("Undo", None), ("undo ", None), (" undo", None), ("undo\n", None), ("one o t", "deed"), ("room r t", "deed"),
                ("room R t", None), ("times toolongname a b", None), ("tell a", None), ("scaled s a -0", None),
                ("scaled s a 0", "deed"), ("scaled s a 0/5", None), ("scaled s a 5/1", None), ("scaled s a +5", None)]:
            self.assertEqual((is_command(value), is_deed(value)), (wanted is not None, wanted == "deed"), value)
            self.check(value)

    def test_any_value(self):
        for value in KINDS + [["undo"], ("undo",), b"undo", None, Ratio(1), "a", "undo redo"]:
            self.check(value)
        self.tells(is_command, lambda value: judged(value)[0])
        self.tells(is_deed, lambda value: judged(value)[1])


if __name__ == "__main__":
    unittest.main()

"""[91], [92]: written forms read, and the wrong line of all other strings."""

import math
import random
import re
import unittest
from fractions import Fraction

from producttables.errors import InvalidText
from producttables.forms import read
from producttables.ratios import Ratio
from producttables.tables import Table, times
from producttables.texts import written
from samples import SAMPLES
from support import KINDS, Case, plain, ratios
from test_texts import GRIDS, NUMBERS, ROWS

COUNT = re.compile(r"0|[1-9][0-9]*")
NUMBER = re.compile(r"(0|-?[1-9][0-9]*)(?:/([1-9][0-9]*))?")


def number_of(word):
    told = NUMBER.fullmatch(word)
    if not told:
        return None
    top, bottom = int(told[1]), int(told[2] or 1)
    if told[2] and (bottom == 1 or math.gcd(top, bottom) != 1):
        return None
    return Fraction(top, bottom)


def numbers_of_words(words):
    numbers = [number_of(word) for word in words]
    return None if None in numbers else numbers


def judged(text):
    """What a text tells, or the number of its wrong line, line by line."""
    told, kind, size, last = None, None, None, None
    whole = re.findall(r"[^\n]*\n", text)
    for at, line in enumerate(whole):
        words = line[:-1].split(" ")
        if at == 0:
            kind = words[0]
            if line in ("table\n", "grid\n"):
                told = []
            elif kind == "numbers" and 2 <= len(words) <= 65 and numbers_of_words(words[1:]) is not None:
                told = numbers_of_words(words[1:])
            else:
                return 1
        elif kind == "table" and at == 1:
            if len(words) != 2 or words[0] != "size" or words[1] not in list("12345678"):
                return 2
            size, last = int(words[1]), (-1, -1)
            told = [[[Fraction(0)] * size for _ in range(size)] for _ in range(size)]
        elif kind == "table":
            if len(words) != size + 3 or words[0] != "times" or not all(COUNT.fullmatch(word) for word in words[1:3]):
                return at + 1
            places, amounts = (int(words[1]), int(words[2])), numbers_of_words(words[3:])
            if max(places) >= size or places <= last or amounts is None or not any(amounts):
                return at + 1
            last = places
            told[places[0]][places[1]] = amounts
        elif kind == "grid":
            row = numbers_of_words(words[1:])
            if words[0] != "row" or not row or len(row) > 64 or (told and len(row) != len(told[0])) or len(told) == 64:
                return at + 1
            told.append(row)
        else:
            return at + 1
    if "".join(whole) != text or told is None or (kind == "table" and size is None):
        return len(whole) + 1
    return told


def right_texts():
    found = [written(rows) for rows in ROWS[::3]] + [written(grid) for grid in GRIDS[::2]]
    return found + [written(numbers) for numbers in NUMBERS[::3]]


def bent_texts(text, seed):
    """The text with one thing otherwise, in one place."""
    seeded = random.Random(seed)
    lines = text.split("\n")[:-1]
    found = [text[:-1], text + "\n", text + " ", text + "row", text + text, "\n" + text, " " + text, text + "grid\n", ""]
    places = [at for at, sign in enumerate(text) if sign in " \n"]
    for at in seeded.sample(places, min(len(places), 12)):
        found += [text[:at] + text[at + 1:], text[:at] + text[at] + text[at:], text[:at] + " " + text[at:]]
        found += [text[:at] + "\n" + text[at + 1:], text[:at] + " " + text[at + 1:]]
    for at in seeded.sample(range(len(text)), min(len(text), 12)):
        for sign in seeded.sample("0123456789-/ +.,xTtr\n", 5):
            found += [text[:at] + sign + text[at + 1:], text[:at] + sign + text[at:]]
        found += [text[:at], text[:at] + text[at + 1:]]
    for at in seeded.sample(range(len(lines)), min(len(lines), 5)):
        ahead, line, behind = lines[:at], lines[at], lines[at + 1:]
        words = line.split(" ")
        place = seeded.randrange(len(words))
        other = seeded.choice(["0", "1", "-1", "2/4", "1/2", "-0", "00", "07", "8", "row", "times", "3/1", "-3/6", "1/0", ""])
        for bent in (words[:place] + words[place + 1:], words[:place] + [words[place]] + words[place:],
                     words[:place] + [other] + words[place + 1:], words[:place] + [other] + words[place:],
                     words[:1] + words[1:][::-1], words[:place] + ["".join(words[place:place + 2])] + words[place + 2:]):
            found.append("\n".join(ahead + [" ".join(bent)] + behind) + "\n")
        for bent in (ahead + behind, ahead + [line, line] + behind, ahead + behind[:1] + [line] + behind[1:],
                     ahead + [line.upper()] + behind, ahead + [line + " "] + behind, ahead + [" " + line] + behind,
                     ahead + [""] + behind, ahead, ahead + [line, ""] + behind):
            found.append("".join(one + "\n" for one in bent))
    return found


class Wrong(Case):
    def check(self, text):
        wanted = judged(text)
        if isinstance(wanted, int):
            self.fails(InvalidText, read, text, line=wanted)
        else:
            self.assertEqual(read(text), ratios(wanted))
            self.assertEqual(written(read(text)), text)
        return isinstance(wanted, int)

    def test_right_texts(self):
        for text in right_texts():
            self.assertIs(self.check(text), False)
            self.call(read, text)

    def test_bent_texts(self):
        wrong, right, seen = 0, 0, set()
        for seed, text in enumerate(right_texts()):
            for bent in bent_texts(text, seed):
                if self.check(bent):
                    wrong, seen = wrong + 1, seen | {judged(bent)}
                else:
                    right += 1
        self.assertGreater(wrong, 1000)
        self.assertGreater(right, 50)
        self.assertGreater(len(seen), 8)

    def test_told(self):
        rows = "".join(f"row {at}\n" for at in range(64))
        for text, line in [
                ("", 1), ("\n", 1), (" ", 1), ("table", 1), ("table\n", 2), ("table \n", 1), ("grid", 1), ("grid \n", 1),
                ("numbers", 1), ("numbers\n", 1), ("numbers \n", 1), ("numbers 1", 1), ("numbers 1\nx", 2),
                ("numbers 1\n\n", 2), ("numbers 1\nnumbers 1\n", 2), ("numbers 1  2\n", 1), ("numbers 1 2 \n", 1),
                ("numbers" + " 0" * 65 + "\n", 1), ("numbers -0\n", 1), ("numbers 01\n", 1), ("numbers -01\n", 1),
                ("numbers 2/4\n", 1), ("numbers 1/1\n", 1), ("numbers 0/2\n", 1), ("numbers 1/-2\n", 1), ("numbers 1/0\n", 1),
                ("numbers 1/02\n", 1), ("numbers +1\n", 1), ("numbers 1/2/3\n", 1), ("numbers --1\n", 1), ("numbers 1/\n", 1),
                ("numbers /2\n", 1), ("numbers -\n", 1), ("numbers 1.5\n", 1), ("Numbers 1\n", 1), ("number 1\n", 1),
                ("table\nsize", 2), ("table\nsize 2", 2), ("table\nsize 0\n", 2), ("table\nsize 9\n", 2), ("table\n\n", 2),
                ("table\nsize 02\n", 2), ("table\nsize 2 2\n", 2), ("table\nsize -1\n", 2), ("table\nsize 1/2\n", 2),
                ("table\ntimes 0 0 1\n", 2), ("table\nsize 1\ntimes 0 0 0\n", 3), ("table\nsize 1\ntimes 0 0 1", 3),
                ("table\nsize 1\ntimes 0 0 1\ntimes 0 0 1\n", 4), ("table\nsize 1\ntimes 0 1 1\n", 3),
                ("table\nsize 1\ntimes 1 0 1\n", 3), ("table\nsize 1\ntimes 0 0 1 1\n", 3), ("table\nsize 1\ntimes 0 0\n", 3),
                ("table\nsize 2\ntimes 0 1 0 1\ntimes 0 0 1 0\n", 4), ("table\nsize 2\ntimes 1 0 0 1\ntimes 0 1 0 1\n", 4),
                ("table\nsize 2\ntimes 0 0 0 0\n", 3), ("table\nsize 2\ntimes 0 00 1 0\n", 3),
                ("table\nsize 2\ntimes -0 0 1 0\n", 3), ("table\nsize 2\ntimes 0 0 1 2/4\n", 3),
                ("table\nsize 2\nsize 2\n", 3), ("table\nsize 2\n\n", 3), ("table\nsize 2\ntime 0 0 1 1\n", 3),
                ("grid\nrow\n", 2), ("grid\nrow \n", 2), ("grid\nrow 1\nrow 1 2\n", 3), ("grid\nrow 1 2\nrow 1\n", 3),
                ("grid\nrow 1\n\n", 3), ("grid\nrow 1\nrow 2", 3), ("grid\n\nrow 1\n", 2), ("grid\nrow" + " 0" * 65 + "\n", 2),
                ("grid\n" + rows + "row 1\n", 66), ("grid\n" + rows + "row 1", 66), ("grid\n" + rows[:-1], 65),
                ("grid\n" + rows + "x\n", 66), ("grid\nrow 1\nrow a\nrow b\n", 3), ("grid\ngrid\n", 2),
                # the first wrong line, though the last one has no line feed
                ("grid\nrow a\nrow 1", 2), ("table\nsize 9\ntimes", 2), ("numbers 0/2\nx", 1)]:
            self.fails(InvalidText, read, text, line=line)
            self.assertEqual(judged(text), line)
        self.assertEqual(len(read("grid\n" + rows)), 64)
        self.assertEqual(read("numbers 0 -1/2 12\n"), ratios([0, Ratio(-1, 2), 12]))
        self.assertEqual(read(text="table\nsize 1\n"), ratios([[[0]]]))
        self.assertEqual(read("grid\nrow" + " 0" * 64 + "\n"), ratios([[0] * 64]))

    def test_no_strings(self):
        for value in KINDS:
            if isinstance(value, str):
                self.check(value)
            else:
                self.fails(InvalidText, read, value, line=0)
        for value in (b"grid\n", ["grid\n"], None, True, 1):
            self.fails(InvalidText, read, value, line=0)

    def test_bad_rows_are_read(self):
        rows = read("table\nsize 2\ntimes 0 0 0 1\ntimes 0 1 1 0\n")
        self.assertEqual(rows, ratios([[[0, 1], [1, 0]], [[0, 0], [0, 0]]]))

    def test_great_numbers(self):
        made = SAMPLES["root"].thing(1)
        numbers = [Ratio(999999, 7)]
        for _ in range(8):
            numbers.append(numbers[-1] * numbers[-1])
        text = written(numbers)
        self.assertEqual(read(text), numbers)
        self.check(text.replace("/", "", 1))
        self.check(text.replace(" ", "", 2))
        self.assertEqual(times(SAMPLES["root"], made, made), ratios([2, 0]))


class Tables(Case):
    def test_tables(self):
        for table in SAMPLES.values():
            self.assertEqual(Table(read(written(table))), table)
            self.assertEqual(plain(read(written(table))), plain(table.rows()))


if __name__ == "__main__":
    unittest.main()

"""[93], [94]: claims, their contraries, whether they are true, and their papers."""

import random
import unittest

from producttables.claims import contrary, is_claim, is_paper_of, is_true, paper_of, words
from producttables.dying import dies, dying, dying_power
from producttables.errors import InvalidClaim
from producttables.lots import is_split, same_lots
from producttables.lowest import least_line
from producttables.makers import beside as tables_beside
from producttables.makers import crossed, in_letters, line_table, noughts, numbers_table, upper_table, with_one
from producttables.middle import full_one, middle
from producttables.parting import block_sizes, is_simple, parting
from producttables.parts import is_closed, told_part
from producttables.ratios import Ratio
from producttables.rooms import Room, acts, traces_of
from producttables.steps import made_of, steps
from producttables.tables import Table, one, times
from producttables.undoing import killer, undone
from producttables.wholes import is_whole_paper, whole_paper
from roomsamples import ROOMS, UPPER, in_places, nought_room, same_table
from samples import SAMPLES, mixtures_of, things_at
from support import KINDS, Case, fresh, letters_of, plain, plain_times, shape, tuples
from test_parts import other_rows, parts_of
import support

WORDS = [("dies", "lives"), ("undone", "kills"), ("simple", "parted"), ("closed", "open"), ("split", "held"),
         ("alike", "unlike")]
TABLES = dict(SAMPLES)
TABLES.update({
    "three powers": line_table([-2, 0, 0, 1]), "root and squares": tables_beside(line_table([-2, 0, 1]), numbers_table(2)),
    "two roots": tables_beside(line_table([-2, 0, 1]), line_table([-3, 0, 1])),
    "four ones": in_letters(line_table([0, -1, 0, 1]), letters_of(7, 3)),
    "root in letters": in_letters(line_table([1, 0, 0, 0, 1]), letters_of(9, 4)),
    "great root": line_table([1, 0, 0, 0, 1]),
})


def claims_of_line(first):
    """Things of the claims of a line."""
    if first in ("dies", "undone"):
        for seed, table in enumerate(TABLES.values()):
            if first == "dies" or one(table) is not None:
                yield from ((table, mixture) for mixture in mixtures_of(table, seed, 2)[:7] + dying(table)[:1])
    elif first == "simple":
        yield from TABLES.values()
    elif first == "closed":
        for seed, table in enumerate(SAMPLES.values()):
            for part in parts_of(table, seed)[::2] + [dying(table), middle(table)]:
                yield table, part
                yield table, other_rows(part, seed)
    elif first == "split":
        yield from ROOMS.values()
    else:
        for name in list(ROOMS)[::2]:
            for other in same_table(name)[:4]:
                yield ROOMS[name], other


TRUE = {
    "dies": lambda thing: dies(*thing), "undone": lambda thing: undone(*thing) is not None, "simple": is_simple,
    "closed": lambda thing: is_closed(*thing), "split": is_split, "alike": lambda thing: same_lots(*thing),
}


def all_claims():
    for line in WORDS:
        for thing in claims_of_line(line[0]):
            for word in line:
                yield word, thing


def is_mixture(table, value):
    return support.is_numbers(value, table.size, table.size)


def is_paper(claim, value):
    """The words of the table of [93], the plain way."""
    word, thing = claim
    if word in ("dies", "lives", "undone", "kills"):
        return is_mixture_paper(word, *thing, value)
    return {"simple": is_simple_paper, "parted": is_parted_paper, "closed": is_closed_paper, "open": is_open_paper,
            "split": is_split_paper, "held": is_held_paper, "alike": is_alike_paper,
            "unlike": is_unlike_paper}[word](thing, value)


def is_mixture_paper(word, table, mixture, value):
    told, size = plain(list(mixture)), table.size
    if word == "dies":
        if type(value) is not tuple or len(value) != 2 or not support.is_part(value[0], size):
            return False
        part, many = plain(list(value[0])), value[1]
        if type(many) is not int or not 1 <= many <= 9 or not makes(part, [told]):
            return False
        things = plain(things_at(size, range(size)))
        if not makes(part, [plain_times(table, a, b) for row in part for thing in things
                            for a, b in ((row, thing), (thing, row))]):
            return False
        power = part
        for _ in range(many - 1):
            power = support.plain_steps([plain_times(table, a, b) for a in power for b in part])
        return power == []
    if not is_mixture(table, value):
        return False
    other = plain(list(value))
    made = plain_times(table, told, other)
    if word == "lives":
        traces = [sum(plain(table.rows())[i][j][j] for j in range(size)) for i in range(size)]
        return sum(a * b for a, b in zip(made, traces)) != 0
    if word == "undone":
        return made == plain(one(table)) and plain_times(table, other, told) == made
    return any(other) and not any(made)


def makes(part, rows):
    return len(support.plain_steps(part + list(rows))) == len(support.plain_steps(part))


def is_middle_one(table, mixture):
    things = plain(things_at(table.size, range(table.size)))
    return all(plain_times(table, mixture, thing) == plain_times(table, thing, mixture) for thing in things)


def is_simple_paper(table, value):
    if type(value) is not tuple or len(value) != 2 or dying(table) or not is_mixture(table, value[0]):
        return False
    if not is_middle_one(table, plain(list(value[0]))):
        return False
    line = least_line(table, value[0])
    return len(line) - 1 == len(middle(table)) and is_whole_paper(line, value[1])


def is_parted_paper(table, value):
    if type(value) is not tuple or len(value) != 2 or not is_mixture(table, value[1]) or not any(plain(list(value[1]))):
        return False
    mixture = plain(list(value[1]))
    if type(value[0]) is str and value[0] == "dying":
        return dies(table, value[1])
    if type(value[0]) is not str or value[0] != "square" or not is_middle_one(table, mixture):
        return False
    return plain_times(table, mixture, mixture) == mixture and plain(one(table) or []) != mixture


def is_closed_paper(thing, value):
    table, part = thing
    told = plain(told_part(table, part))
    many = len(told)
    if type(value) not in (list, tuple) or len(value) != many:
        return False
    for first, row in zip(told, value):
        if type(row) not in (list, tuple) or len(row) != many:
            return False
        for second, amounts in zip(told, row):
            if not support.is_numbers(amounts, many, many):
                return False
            added = support.plain_sum(plain(list(amounts)), told, table.size)
            if added != plain_times(table, first, second):
                return False
    return True


def is_open_paper(thing, value):
    table, part = thing
    told = plain(told_part(table, part))
    if type(value) is not tuple or len(value) != 2 or not all(type(n) is int and 0 <= n < len(told) for n in value):
        return False
    return not makes(told, [plain_times(table, told[value[0]], told[value[1]])])


def is_split_paper(room, value):
    return is_split(room) and support.is_part(value, room.table.size) and steps(value) == dying(room.table)


def is_held_paper(room, value):
    if type(value) is not tuple or len(value) != 2 or not is_mixture(room.table, value[0]):
        return False
    if type(value[1]) is not int or not 0 <= value[1] < room.size or not dies(room.table, value[0]):
        return False
    return any(plain(acts(room, value[0])[value[1]]))


def is_alike_paper(rooms, value):
    if type(value) is not tuple or len(value) != 2 or type(value[0]) is not int:
        return False
    many = rooms[0].table.size
    return all(value[0] == room.size and support.is_numbers(value[1], many, many)
               and plain(list(value[1])) == plain(traces_of(room)) for room in rooms)


def is_unlike_paper(rooms, value):
    if type(value) is str:
        return value == "size" and rooms[0].size != rooms[1].size
    if type(value) is not int or not 0 <= value < rooms[0].table.size:
        return False
    return traces_of(rooms[0])[value] != traces_of(rooms[1])[value]


def bent(value, seed):
    """Values with one thing otherwise."""
    seeded = random.Random(seed)
    if isinstance(value, (list, tuple)):
        found = [value[:at] + type(value)([one]) + value[at + 1:] for at in range(len(value))
                 for one in bent(value[at], seed + at)[:6]]
        found += [value[:-1], value + value[-1:], type(value)(reversed(value)), value + type(value)([None])]
        return seeded.sample(found, min(len(found), 9)) + [list(value) if isinstance(value, tuple) else tuple(value)]
    if isinstance(value, Ratio):
        return [value + 1, -value, value.top, True, None, str(value), Ratio(value.top, value.bottom + 1)]
    if isinstance(value, str):
        return ["", value + "s", "dying", "square", "size", None, 0]
    return [value + 1, -value, value - 1, Ratio(value), bool(value), None, str(value)]


class Words(Case):
    def test_words(self):
        self.assertEqual(words(), WORDS)
        told = words()
        fresh(told)
        self.assertEqual(words(), WORDS)
        self.assertEqual({type(line) for line in words()}, {tuple})


class Claims(Case):
    def test_claims(self):
        for claim in all_claims():
            self.assertIs(is_claim(claim), True)
            self.assertIs(is_claim(value=tuples(claim)), True)
            self.assertIs(is_claim(list(claim)), False)
            self.assertIs(is_claim(claim + (None,)), False)
            self.assertIs(is_claim(claim[:1]), False)
            self.assertIs(is_claim((claim[0] + "s", claim[1])), False)
            self.assertIs(is_claim((claim[0].upper(), claim[1])), False)
            if isinstance(claim[1], tuple):
                self.assertIs(is_claim((claim[0], list(claim[1]))), False)
                self.assertIs(is_claim((claim[0], claim[1] + (0,))), False)
                self.assertIs(is_claim((claim[0], claim[1][::-1])), claim[0] in ("alike", "unlike"))

    def test_kinds(self):
        root, corner, upper = SAMPLES["root"], SAMPLES["corner"], upper_table(2)
        things = [
            (root, [1, 2]), (root, (Ratio(1), 0)), (root, [1, 2, 3]), (root, [True, 0]), (corner, [1, 0]), root, corner,
            (root, [[1, 2]]), (root, []), (root, ([1, 0], (0, 1))), (root, [[1, 2], [2, 4]]), (corner, [[0, 1]]), UPPER,
            (UPPER, UPPER), (UPPER, nought_room(upper, 3)), (UPPER, ROOMS["squares"]), (UPPER, root), (root, UPPER),
            (root,), (root, root), root.rows(), UPPER.squares(), None, "dies", (None, [1, 2]), (root, None), (), [],
        ]
        wanted = {
            "dies": [0, 1, 4], "undone": [0, 1], "simple": [5, 6], "closed": [7, 8, 9, 11], "split": [12],
            "alike": [13, 14],
        }
        for line in WORDS:
            for word in line:
                for at, thing in enumerate(things):
                    told = is_claim((word, thing))
                    self.assertIs(told, at in wanted[line[0]], (word, at))
                    if not told:
                        self.wrong((word, thing))

    def wrong(self, claim):
        self.fails(InvalidClaim, is_true, claim, value=claim)
        self.fails(InvalidClaim, contrary, claim, value=claim)
        self.fails(InvalidClaim, paper_of, claim, value=claim)
        self.fails(InvalidClaim, is_paper_of, claim, None, value=claim)

    def test_any_value(self):
        for value in KINDS + [UPPER, ("simple",), ("simple", numbers_table(1), 0), (b"simple", numbers_table(1)),
                              ("", numbers_table(1)), (0, numbers_table(1)), (["simple"], numbers_table(1)),
                              [("simple", numbers_table(1))], {"simple": numbers_table(1)}, "simple",
                              ("deep", numbers_table(1)), ("dies lives", (numbers_table(1), [1]))]:
            self.assertIs(is_claim(value), False)
            self.wrong(value)
        for line in WORDS:
            for word in line:
                for value in KINDS:
                    fine = isinstance(value, Table) and word in ("simple", "parted")
                    self.assertIs(is_claim((word, value)), fine)
                    if not fine:
                        self.wrong((word, value))

    def test_contraries(self):
        for claim in all_claims():
            other = contrary(claim)
            self.assertIs(type(other), tuple)
            line = next(line for line in WORDS if claim[0] in line)
            self.assertEqual(other[0], line[1 - line.index(claim[0])])
            # the same thing as it was passed: numbers of the same kinds, lists and tuples as they were
            self.assertEqual(other[1], claim[1])
            self.assertEqual(shape(other[1]), shape(claim[1]))
            self.assertEqual(contrary(claim=other), claim)
        thing = (SAMPLES["root"], [1, Ratio(2)])
        told = contrary(("dies", thing))
        fresh(told[1])
        self.assertEqual(thing, (SAMPLES["root"], [1, Ratio(2)]))
        self.assertIs(type(contrary(("dies", (SAMPLES["root"], (1, 2))))[1][1]), tuple)
        rows = contrary(("closed", (SAMPLES["root"], ([1, 2], (0, 1)))))[1][1]
        self.assertEqual(rows, ([1, 2], (0, 1)))

    def test_truth(self):
        for line in WORDS:
            seen = set()
            for thing in claims_of_line(line[0]):
                wanted = TRUE[line[0]](thing)
                seen.add(wanted)
                self.assertIs(is_true((line[0], thing)), wanted)
                self.assertIs(is_true(claim=(line[1], thing)), not wanted)
            self.assertEqual(seen, {True, False})


class Papers(Case):
    def test_papers(self):
        for claim in all_claims():
            told = paper_of(claim)
            truth = is_true(claim)
            if not truth:
                self.assertIsNone(told)
                continue
            self.assertIsNotNone(told)
            self.assertIs(is_paper(claim, told), True)
            self.assertIs(is_paper_of(claim, told), True)
            self.assertIs(is_paper_of(claim, tuples_within(told)), True)
            self.assertIs(is_paper_of(contrary(claim), told), False)
            fresh(told)
            self.assertEqual(paper_of(claim=claim), paper_of(claim))

    def test_ratios(self):
        for claim in all_claims():
            told = paper_of(claim)
            if claim[0] in ("lives", "undone", "kills"):
                self.assertEqual({type(number) for number in told or []} - {Ratio}, set())
            if claim[0] in ("parted", "held") and told:
                self.assertEqual({type(number) for number in told[1 if claim[0] == "parted" else 0]}, {Ratio})
            if claim[0] == "closed":
                self.assertEqual({type(n) for rows in told or [] for row in rows for n in row} - {Ratio}, set())
            if claim[0] == "alike" and told:
                self.assertEqual((type(told[0]), {type(number) for number in told[1]}), (int, {Ratio}))
            if claim[0] in ("open",) and told:
                self.assertEqual({type(place) for place in told}, {int})

    def test_bent_papers(self):
        counted = {word: [0, 0] for line in WORDS for word in line}
        for seed, claim in enumerate(all_claims()):
            told = paper_of(claim)
            if told is None:
                continue
            seeded = random.Random(seed)
            for value in seeded.sample(all_bent := bent(told, seed), min(4, len(all_bent))) + [claim[1]]:
                wanted = is_paper(claim, value)
                self.assertIs(is_paper_of(claim, value), wanted, (claim[0], value))
                if wanted:
                    self.assertIs(is_paper_of(contrary(claim), value), False)
                counted[claim[0]][wanted] += 1
        for word, (wrong, _) in counted.items():
            self.assertGreater(wrong, 10, word)

    def test_other_papers(self):
        # what is a paper of the contrary, or of another claim of the same kind
        for line in WORDS:
            papers, claims = [], []
            for at, thing in enumerate(claims_of_line(line[0])):
                if at % 5 == 0:
                    claims += [(word, thing) for word in line]
                    papers += [paper_of((word, thing)) for word in line]
            for at, claim in enumerate(claims):
                for value in papers[at % 3::3][:12] + [[], (), None, 0, "size"]:
                    self.assertIs(is_paper_of(claim=claim, value=value), is_paper(claim, value))

    def test_every_kind_of_value(self):
        upper, powers = upper_table(2), SAMPLES["powers"]
        for claim in [("dies", (upper, [0, 1, 0])), ("lives", (upper, [1, 0, 0])), ("undone", (upper, [1, 0, 1])),
                      ("kills", (upper, [1, 0, 0])), ("simple", numbers_table(1)), ("parted", upper),
                      ("parted", SAMPLES["round two"]), ("closed", (upper, [[1, 0, 0]])), ("closed", (upper, [])),
                      ("open", (SAMPLES["squares"], [[0, 1, 1, 0]])), ("split", ROOMS["singles"]), ("held", UPPER),
                      ("alike", (UPPER, in_places(UPPER, 3))), ("unlike", (UPPER, nought_room(UPPER.table, 2))),
                      ("unlike", (UPPER, nought_room(UPPER.table, 1))), ("lives", (SAMPLES["single"], [1])),
                      ("kills", (powers, [0, 1, 0])), ("undone", (SAMPLES["half"], [2])),
                      ("split", ROOMS["half"]), ("unlike", (ROOMS["upper"], ROOMS["two uppers"]))]:
            for value in KINDS + [UPPER, ("dying", [0, 1, 0]), ("size", [0]), ("square", [1, 0]), (0, 0), (1, 0)]:
                told = is_paper_of(claim, value)
                self.assertIs(told, is_paper(claim, value), (claim[0], value))

    def test_told(self):
        short = Table([[[1, 0], [0, 1]], [[0, 1], [0, 0]]])
        round_two, upper = SAMPLES["round two"], upper_table(2)
        half = Ratio(1, 2)
        for claim, value, wanted in [
                (("dies", (short, [0, 1])), ([[0, 5]], 2), True), (("dies", (short, [0, 1])), ([[0, 5]], 1), False),
                (("dies", (short, [0, 1])), [[[0, 5]], 2], False), (("dies", (short, [0, 1])), ([(0, 5)], Ratio(2)), False),
                (("kills", (short, [0, 1])), [0, 3], True), (("kills", (short, [0, 1])), [0, 0], False),
                (("undone", (short, [1, 1])), [1, -1], True), (("undone", (short, [1, 1])), (Ratio(1), -1), True),
                (("undone", (short, [1, 1])), [1, 1], False), (("undone", (short, [0, 1])), [0, 1], False),
                (("parted", short), ("dying", [0, 1]), True), (("parted", short), ("dying", [0, 0]), False),
                (("parted", short), ("dying", [1, 0]), False), (("parted", short), ["dying", [0, 1]], False),
                (("parted", short), ("square", [0, 1]), False), (("parted", short), ("square", [1, 0]), False),
                (("parted", round_two), ("square", [half, half]), True), (("parted", round_two), ("square", [1, 0]), False),
                (("parted", round_two), ("square", [0, 0]), False), (("parted", round_two), ("dying", [0, 0]), False),
                (("parted", round_two), ("square", [half, -half]), True), (("parted", round_two), ("squares", [half, half]),
                                                                          False),
                (("parted", numbers_table(2)), ("square", [1, 0, 0, 0]), False),
                (("simple", short), ([1, 0], (3, 1, [[1, 1]])), False),
                (("simple", SAMPLES["root"]), ([0, 1], (3, 4, [[79, 0, 1]])), True),
                (("simple", SAMPLES["root"]), ([0, 1], (3, 2, [[7, 0, 1]])), False),
                (("simple", SAMPLES["root"]), ([1, 0], (3, 4, [[80, 1]])), False),
                (("simple", SAMPLES["root"]), [[0, 1], (3, 4, [[79, 0, 1]])], False),
                (("simple", numbers_table(2)), ([2, 0, 0, 2], (3, 3, [[25, 1]])), True),
                # something dies; of the middle, but its least line is too short; not of the middle
                (("simple", upper), ([1, 0, 1], (3, 3, [[26, 1]])), False),
                (("parted", upper), ([1, 0, 1], (3, 3, [[26, 1]])), False),
                (("simple", SAMPLES["root"]), ([1, 0], (3, 3, [[26, 1]])), False),
                (("simple", crossed(numbers_table(2), SAMPLES["root"])), ([0, 0, 1, 0, -1, 0, 0, 0], (3, 3, [[1, 0, 1]])),
                 False),
                (("simple", crossed(numbers_table(2), SAMPLES["root"])), ([0, 1, 0, 0, 0, 0, 0, 1], (3, 4, [[79, 0, 1]])),
                 True),
                (("closed", (short, [[2, 2], [0, 1]])), [[[1, 0], [0, 1]], [[0, 1], [0, 0]]], True),
                (("closed", (short, [[0, 2]])), [[[0]]], True), (("closed", (short, [[0, 2]])), [[[1]]], False),
                (("closed", (short, [[0, 2]])), [[[0, 0]]], False), (("closed", (short, [])), [], True),
                (("closed", (short, [])), (), True), (("closed", (short, [])), [[]], False),
                # rows of the part as told: its steps
                (("closed", (round_two, [[2, 2]])), [[[2]]], True), (("closed", (round_two, [[2, 2]])), [[[4]]], False),
                (("open", (round_two, [[0, 1]])), (0, 0), True), (("open", (round_two, [[0, 1]])), [0, 0], False),
                (("open", (round_two, [[0, 1]])), (0, 1), False), (("open", (round_two, [[0, 1]])), (0, False), False),
                (("open", (round_two, [[1, 1]])), (0, 0), False), (("open", (round_two, [[0, 1]])), (0, Ratio(0)), False),
                (("split", ROOMS["singles"]), things_at(6, [1, 2, 4]), True),
                (("split", ROOMS["singles"]), things_at(6, [4, 2, 1]), True),
                (("split", ROOMS["singles"]), things_at(6, [1, 2]), False), (("split", UPPER), [[0, 1, 0]], False),
                (("split", ROOMS["squares"]), [], True), (("held", UPPER), ([0, 1, 0], 1), True),
                (("held", UPPER), ([0, 1, 0], 0), False), (("held", UPPER), ([0, 1, 0], 2), False),
                (("held", UPPER), ([1, 1, 0], 1), False), (("held", UPPER), ([0, 1, 0], True), False),
                (("held", UPPER), [[0, 1, 0], 1], False), (("held", UPPER), ([0, 1, 0], Ratio(1)), False),
                (("alike", (UPPER, UPPER)), (2, [1, 0, 1]), True), (("alike", (UPPER, UPPER)), (2, (1, 0, Ratio(1))), True),
                (("alike", (UPPER, UPPER)), (Ratio(2), [1, 0, 1]), False), (("alike", (UPPER, UPPER)), [2, [1, 0, 1]], False),
                (("alike", (UPPER, UPPER)), (2, [1, 0, 2]), False),
                (("alike", (ROOMS["half"], ROOMS["half"])), (1, [Ratio(1, 2)]), True),
                (("alike", (ROOMS["half"], ROOMS["half"])), (True, [Ratio(1, 2)]), False),
                (("alike", (UPPER, nought_room(upper, 2))), (2, [1, 0, 1]), False),
                (("alike", (nought_room(upper, 2), nought_room(upper, 3))), (2, [0, 0, 0]), False),
                (("unlike", (UPPER, nought_room(upper, 2))), 0, True), (("unlike", (UPPER, nought_room(upper, 2))), 1, False),
                (("unlike", (UPPER, nought_room(upper, 2))), 2, True),
                (("unlike", (UPPER, nought_room(upper, 2))), "size", False),
                (("unlike", (UPPER, nought_room(upper, 1))), "size", True),
                (("unlike", (UPPER, nought_room(upper, 1))), False, False),
                (("unlike", (UPPER, nought_room(upper, 1))), Ratio(0), False),
                (("unlike", (UPPER, nought_room(upper, 1))), 3, False), (("unlike", (UPPER, UPPER)), "size", False)]:
            self.assertIs(is_paper_of(claim, value), wanted, (claim[0], value))
            self.assertIs(is_paper(claim, value), wanted, (claim[0], value))

    def test_simple_without_a_paper(self):
        # t ** 2 - c, c the product of all primes below 60: modulo none of them it serves
        primes = [p for p in range(2, 60) if all(p % q for q in range(2, p))]
        product = 1
        for prime in primes:
            product *= prime
        number = Ratio(1)
        for prime in primes:
            number = number * prime
        self.assertEqual(number, Ratio(product))
        table = line_table([-number, 0, 1])
        self.assertIs(is_true(("simple", table)), True)
        line = full_one(table)[1]
        self.assertIsNone(whole_paper(line))
        self.assertIsNone(paper_of(("simple", table)))
        self.assertIs(is_paper_of(("simple", table), None), False)

    def test_simple_papers(self):
        seen = 0
        for table in TABLES.values():
            if is_true(("simple", table)):
                mixture, paper = paper_of(("simple", table))
                self.assertEqual(len(least_line(table, mixture)) - 1, len(middle(table)))
                seen += 1
                self.assertIs(is_paper_of(("simple", table), (mixture, None)), False)
            elif not dying(table):
                word, square = paper_of(("parted", table))
                self.assertEqual((word, times(table, square, square)), ("square", square))
                self.assertGreater(len(block_sizes(table)), 1)
                for other in parting(table):
                    self.assertIs(is_paper_of(("parted", table), ("square", other)), True)
            else:
                for other in dying(table):
                    self.assertIs(is_paper_of(("parted", table), ("dying", other)), True)
        self.assertGreater(seen, 5)

    def test_closed_papers(self):
        for table, part in claims_of_line("closed"):
            told = told_part(table, part)
            paper = paper_of(("closed", (table, part)))
            if paper is not None:
                for first, rows in zip(told, paper):
                    for second, amounts in zip(told, rows):
                        self.assertEqual(amounts, made_of(told, times(table, first, second)))
            else:
                i, j = paper_of(("open", (table, part)))
                self.assertIsNone(made_of(told, times(table, told[i], told[j])))

    def test_dying_papers(self):
        for table in TABLES.values():
            for mixture in dying(table):
                self.assertIs(is_paper_of(("dies", (table, mixture)), (dying(table), dying_power(table))), True)
                self.assertIs(is_paper_of(("dies", (table, mixture)), (dying(table), dying_power(table) - 1)), False)
        self.assertIsNotNone(paper_of(("kills", (with_one(noughts(2)), [0, 1, 0]))))

    def test_killers(self):
        for table, mixture in claims_of_line("undone"):
            both = (paper_of(("undone", (table, mixture))), paper_of(("kills", (table, mixture))))
            self.assertEqual([paper is None for paper in both].count(True), 1)
            self.assertEqual(both[0], undone(table, mixture))
            self.assertEqual(both[1] is None, killer(table, mixture) is None)


def tuples_within(value):
    """Lists as tuples, all the way down; tuples stay."""
    return tuples(value) if isinstance(value, list) else (
        tuple(tuples_within(one) for one in value) if isinstance(value, tuple) else value)


class Numbers(Case):
    def test_worth(self):
        table = SAMPLES["root"]
        claim = ("lives", (table, [Ratio(1), Ratio(2)]))
        self.assertEqual(paper_of(claim), paper_of(("lives", (table, (1, 2)))))
        self.assertIs(is_paper_of(("undone", (table, [2, 0])), [Ratio(1, 2), 0]), True)
        self.assertIs(is_paper_of(("undone", (table, [Ratio(1, 2), 0])), [2, Ratio(0)]), True)
        room = Room(table, table.rows())
        self.assertIs(is_paper_of(("alike", (room, room)), (2, [Ratio(2), 0])), True)


if __name__ == "__main__":
    unittest.main()

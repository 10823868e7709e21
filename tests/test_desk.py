"""[95] to [98]: a desk, its deeds and answers, what is asked, states, and how things are taken back."""

import random
import unittest

from producttables.claims import contrary, is_claim, is_paper_of, is_true, paper_of
from producttables.desk import Desk, Trial, tried
from producttables.dying import dying, dying_power
from producttables.errors import (
    CommandFailed, Dying, InvalidClaim, InvalidCommand, InvalidLine, InvalidLines, InvalidMany,
    InvalidMixture, InvalidNumber, InvalidPaper, InvalidPart, InvalidPlace, InvalidTurns, InvalidWeb, LabelTaken,
    LimitError, MissingError, MixError, NameTaken, NoOne, NotClosed, NothingLeft, NothingToRedo, NothingToUndo, NotSide,
    NotUndone, StateError, TooMany, UnknownLabel, UnknownName, UnlikeTables,
)
from producttables.lefts import full_line, trace
from producttables.living import living
from producttables.lots import lots
from producttables.lowest import least_line
from producttables.makers import (
    behind, beside, crossed, four_table, line_table, noughts, numbers_table, turned, upper_table, with_one, within,
)
from producttables.middle import middle
from producttables.parting import block_sizes, blocks
from producttables.parts import closed_of, side_of
from producttables.ratios import Ratio
from producttables.rooms import Room, own_room, room_beside, traces_of
from producttables.tables import Table, added, one, scaled, times
from producttables.turns import group_table
from producttables.undoing import undone
from producttables.webs import web_table
from support import KINDS, Case, fresh, plain, ratios
from test_texts import number_word


class DeskCase(Case):
    def setUp(self):
        self.desk = Desk()

    def do(self, *commands):
        return [self.desk.do(command) for command in commands]

    def kept(self, desk=None):
        """All that is told of a desk."""
        desk = self.desk if desk is None else desk
        return (desk.names, [desk[name] for name in desk.names], desk.labels,
                [desk.claim_of(label) for label in desk.labels], desk.do("states"), desk.lines(), len(desk),
                [desk.fits(label) for label in desk.labels])

    def refuses(self, error, command, desk=None, **attributes):
        """The command fails, by each way of doing it, and changes nothing."""
        desk = self.desk if desk is None else desk
        before = self.kept(desk)
        self.fails(error, desk.do, command, **attributes)
        self.fails(error, desk, command, **attributes)
        for function in (desk.do_all, desk.attempt):
            with self.assertRaises(CommandFailed) as caught:
                function("names", command)
            self.assertIs(type(caught.exception), CommandFailed)
            self.assertEqual(caught.exception.position, 1)
            self.assertIs(type(caught.exception.__cause__), error)
            for name, value in attributes.items():
                self.assertEqual(getattr(caught.exception.__cause__, name), value)
        self.assertEqual(self.kept(desk), before)


class Deeds(DeskCase):
    def test_tables(self):
        root = line_table([-2, 0, 1])
        for command, table in [
                ("numbers a 2", numbers_table(2)), ("upper b 3", upper_table(3)), ("noughts c 5", noughts(5)),
                ("powers d -2 0 1", root), ("powers e 0 1/2 0 -3/4", line_table([0, Ratio(1, 2), 0, Ratio(-3, 4)])),
                ("four f -1 2/3", four_table(-1, Ratio(2, 3))), ("web g 3 0-1 1-2", web_table(3, [(0, 1), (1, 2)])),
                ("web h 4", web_table(4, [])), ("group i 012 120 201", group_table([[0, 1, 2], [1, 2, 0], [2, 0, 1]])),
                ("group j 0", group_table([[0]]))]:
            self.assertEqual(self.do(command), ["-"])
            self.assertEqual(self.desk[command.split()[1]], table)
            self.assertIs(type(self.desk[command.split()[1]]), Table)
        self.assertEqual(self.desk.names, list("abcdefghij"))
        self.desk = Desk()
        self.do("powers d -2 0 1", "numbers a 2", "upper u 2", "noughts n 1", "dying x u", "side y x")
        for command, table in [
                ("beside k d a", beside(root, numbers_table(2))), ("crossed l d u", crossed(root, upper_table(2))),
                ("crossed m u d", crossed(upper_table(2), root)), ("turned o u", turned(upper_table(2))),
                ("withone p n", with_one(noughts(1))), ("behind q x", behind(upper_table(2), [[0, 1, 0]])),
                ("within r x", within(upper_table(2), [[0, 1, 0]]))]:
            self.assertEqual(self.do(command), ["-"])
            self.assertEqual(self.desk[command.split()[1]], table)
            self.desk.do("undo")

    def test_mixtures(self):
        self.do("powers p 0 0 0 1", "upper u 2", "mixture a p 1 -1/2 3", "mixture b p 2 0 1")
        powers, first, second = line_table([0, 0, 0, 1]), [1, Ratio(-1, 2), 3], [2, 0, 1]
        self.assertEqual(self.desk["a"], (powers, ratios(first)))
        for command, mixture in [
                ("times c a b", times(powers, first, second)), ("added c a b", added(powers, first, second)),
                ("scaled c a -2/3", scaled(powers, first, Ratio(-2, 3))), ("undone c a", undone(powers, first)),
                ("one c p", one(powers)), ("mixture c p 0 0 0", ratios([0, 0, 0])), ("times c a a", times(powers, first, first))]:
            self.assertEqual(self.do(command), ["-"])
            self.assertEqual(self.desk["c"], (powers, mixture))
            self.assertIs(type(self.desk["c"]), tuple)
            self.desk.do("undo")
        # first u, then v, is not first v, then u
        self.do("mixture v u 1 0 0", "mixture w u 0 1 0", "times x v w", "times y w v")
        self.assertEqual((self.desk["x"][1], self.desk["y"][1]), (ratios([0, 1, 0]), ratios([0, 0, 0])))

    def test_amounts(self):
        self.do("powers p 0 0 1", "mixture a p 1 2", "amount a 0 -1/2", "amount a 1 0")
        self.assertEqual(self.desk["a"][1], ratios([Ratio(-1, 2), 0]))
        self.refuses(InvalidPlace, "amount a 2 0", value=2)
        self.refuses(InvalidPlace, "amount a 99 1", value=99)
        self.refuses(UnknownName, "amount p 0 1", value="p")
        self.refuses(UnknownName, "amount b 0 1", value="b")
        self.assertEqual(self.desk.lines(), ["powers p 0 0 1", "mixture a p 1 2", "amount a 0 -1/2", "amount a 1 0"])

    def test_parts(self):
        self.do("upper u 3", "mixture a u 0 2 0 0 0 0", "mixture b u 0 1 0 0 3 0", "mixture c u 1 0 0 0 0 0", "part p a b")
        upper = upper_table(3)
        self.assertEqual(self.desk["p"], (upper, ratios([[0, 1, 0, 0, 0, 0], [0, 0, 0, 0, 1, 0]])))
        self.assertIs(type(self.desk["p"]), tuple)
        for command, part in [
                ("dying q u", dying(upper)), ("middle q u", middle(upper)), ("side q p", side_of(upper, self.desk["p"][1])),
                ("closed q p", closed_of(upper, self.desk["p"][1])), ("part q c a", ratios([[1] + [0] * 5, [0, 1] + [0] * 4]))]:
            self.assertEqual(self.do(command), ["-"])
            self.assertEqual(self.desk["q"], (upper, part))
            self.desk.do("undo")
        self.do("living l u", "claim x closed l", "group g 01 10", "block e g 0", "block f g 1")
        self.assertEqual(self.desk["l"], (upper, living(upper)))
        self.assertEqual([self.desk[name] for name in "ef"], [(self.desk["g"], part) for part in blocks(self.desk["g"])])

    def test_rooms(self):
        self.do("upper u 2", "room r u", "both b r r")
        self.assertEqual(self.desk["r"], own_room(upper_table(2)))
        self.assertEqual(self.desk["b"], room_beside(self.desk["r"], self.desk["r"]))
        self.assertIs(type(self.desk["r"]), Room)

    def test_drop(self):
        self.do("upper u 2", "room r u", "mixture a u 1 0 0", "part p a", "drop u")
        self.assertEqual(self.desk.names, ["a", "p", "r"])
        # what is kept does not hang on other names
        self.assertEqual(self.desk["r"], own_room(upper_table(2)))
        self.assertEqual(self.desk["a"], (upper_table(2), ratios([1, 0, 0])))
        self.do("numbers u 1", "times b a a", "drop r", "drop p", "drop a", "drop b", "drop u")
        self.assertEqual(self.desk.names, [])
        self.refuses(UnknownName, "drop u", value="u")

    def test_names_are_kept_apart(self):
        self.do("powers p 0 0 1", "mixture a p 1 2", "scaled b a 1", "amount a 0 5", "drop p", "numbers p 1")
        self.assertEqual(self.desk["b"], (line_table([0, 0, 1]), ratios([1, 2])))
        self.assertEqual(self.desk["a"], (line_table([0, 0, 1]), ratios([5, 2])))
        self.assertEqual(self.desk["p"], numbers_table(1))
        for name in ("a", "b"):
            fresh(self.desk[name][1])
        self.assertEqual(self.desk["b"][1], ratios([1, 2]))

    def test_answers(self):
        # which labels changed, sorted
        self.assertEqual(self.do(
            "powers p 0 0 1", "mixture a p 0 1", "claim up dies a", "claim b lives a", "claim ab undone a", "claim c kills a",
            "claim d simple p", "amount a 0 1", "amount a 0 2", "amount a 1 0", "amount a 0 0", "forget b", "amount a 0 1",
            "drop a", "drop p", "numbers p 1", "one a p", "forget up", "forget ab"),
            ["-", "-", "up true", "b false", "ab false", "c true", "d false", "ab true, b true, c false, up false", "-", "-",
             "ab false, b false, c true, up true", "-", "ab true, c false, up false", "ab gone, c gone, up gone", "d gone",
             "d true", "ab true, c false, up false", "-", "-"])

    def test_another_kind(self):
        self.assertEqual(self.do(
            "upper u 2", "mixture a u 0 1 0", "claim x dies a", "claim y undone a", "drop a", "dying a u", "claim z closed a",
            "drop a", "noughts n 2", "mixture a n 1 0", "states", "drop a", "room a u", "claim s split a",
            "drop a", "living a u", "states"),
            ["-", "-", "x true", "y false", "x gone, y gone", "-", "z true", "z gone", "-", "x true",
             "x true, y gone, z gone", "x gone", "-", "s false", "s gone", "z true", "s gone, x gone, y gone, z true"])

    def test_forget(self):
        self.do("numbers p 2", "claim x simple p")
        self.assertEqual(self.do("forget x"), ["-"])
        self.assertEqual(self.desk.labels, [])
        self.refuses(UnknownLabel, "forget x", value="x")
        self.assertEqual(self.do("claim x parted p", "undo", "undo", "states"),
                         ["x false", "claim x parted p", "forget x", "x true"])


class Asked(DeskCase):
    def test_names_and_states(self):
        self.assertEqual(self.do("names", "states"), ["-", "-"])
        self.do("numbers b 2", "upper a 2", "noughts a1 1", "claim z simple b", "claim b simple a")
        self.assertEqual(self.do("names", "states", "state z", "state b", "claimed z", "claimed b"),
                         ["a a1 b", "b false, z true", "true", "false", "simple b", "simple a"])
        self.do("drop a")
        self.assertEqual(self.do("state b", "states", "claimed b"), ["gone", "b gone, z true", "simple a"])

    def test_show(self):
        self.do("upper u 2", "mixture a u 1 -1/2 0", "dying d u", "part p a", "room r u", "noughts n 1", "dying x n",
                "middle y u", "room s n", "powers c -1/2 0 1")
        self.assertEqual(self.do("show u", "show a", "show d", "show p", "show r", "show n", "show x", "show s", "show c"), [
            "0 0 1 0 0, 0 1 0 1 0, 1 2 0 1 0, 2 2 0 0 1", "1 -1/2 0", "0 1 0", "1 -1/2 0",
            "0 0 1 0 0, 0 1 0 1 0, 1 2 0 1 0, 2 2 0 0 1", "-", "1", "-", "0 0 1 0, 0 1 0 1, 1 0 0 1, 1 1 1/2 0"])
        self.do("numbers m 1", "dying z m")
        self.assertEqual(self.do("show z", "show y", "show m"), ["-", "1 0 1", "0 0 1"])
        self.desk = Desk()
        self.do("numbers q 2", "middle w q", "living l q", "mixture o q 0 0 0 0")
        self.assertEqual(self.do("show w", "show l", "show o", "size o"),
                         ["1 0 0 1", "1 0 0 0, 0 1 0 0, 0 0 1 0, 0 0 0 1", "0 0 0 0", "0"])

    def test_size(self):
        self.do("upper u 3", "dying d u", "room r u", "mixture a u 1 0 -1 0 2/3 0", "numbers m 1", "dying z m")
        self.assertEqual(self.do("size u", "size d", "size r", "size a", "size m", "size z"), ["6", "3", "6", "3", "1", "0"])

    def test_lines_and_traces(self):
        self.do("upper u 2", "mixture a u 1/2 3 -2", "room r u", "both b r r")
        upper, mixture = upper_table(2), [Ratio(1, 2), 3, -2]
        self.assertEqual(self.do("trace a"), [str(trace(upper, mixture))])
        for command, numbers in [("least a", least_line(upper, mixture)), ("full a", full_line(upper, mixture)),
                                 ("traces r", traces_of(own_room(upper)))]:
            self.assertEqual(self.do(command), [" ".join(str(number) for number in numbers)])
        self.assertEqual(self.do("least a", "traces b", "lots r", "lots b"), ["-1 3/2 1", "4 0 2", "1 2", "2 4"])

    def test_power_and_sizes(self):
        self.do("upper u 3", "numbers a 2", "powers b -1 0 1", "beside c a b", "noughts n 3", "room r n")
        self.assertEqual(self.do("power u", "power a", "power n", "sizes a", "sizes b", "sizes c", "lots r"),
                         ["3", "1", "2", "4 1", "1 1, 1 1", "1 1, 1 1, 4 1", "-"])
        self.assertEqual(self.do("sizes c"), [", ".join(f"{size} {inside}" for size, inside in block_sizes(self.desk["c"]))])
        self.assertEqual(self.do("power u"), [str(dying_power(upper_table(3)))])
        self.refuses(Dying, "sizes u")
        self.refuses(Dying, "sizes n")
        self.assertEqual(self.do("room s b", "lots s"), ["-", " ".join(map(str, lots(own_room(self.desk["b"]))))])

    def test_same(self):
        self.do("upper u 2", "web w 2 0-1", "turned x u", "mixture a u 1 0 0", "mixture b u 1 0 0",
                "mixture c x 1 0 0", "dying d u", "dying e w", "room r u", "room s u", "room t x", "middle m u")
        for first, second, wanted in [
                ("u", "u", "yes"), ("u", "x", "no"), ("u", "w", "no"), ("a", "b", "yes"), ("a", "c", "no"), ("d", "d", "yes"),
                ("d", "m", "no"), ("d", "e", "no"), ("r", "s", "yes"), ("r", "t", "no")]:
            self.assertEqual(self.do(f"same {first} {second}", f"same {second} {first}"), [wanted, wanted])
        self.do("drop x", "drop w", "drop t", "scaled f a 3", "part p a", "part q f")
        # parts: made of one another
        self.assertEqual(self.do("same p q", "same p d", "same a f"), ["yes", "no", "no"])
        for command, name in [("same u a", "a"), ("same a d", "d"), ("same d r", "r"), ("same r u", "u"), ("same z u", "z"),
                              ("same u z", "z"), ("same z y", "z")]:
            self.refuses(UnknownName, command, value=name)

    def test_great_numbers(self):
        self.do("powers p 0 0 1", "mixture a p 999999/999983 -999979/999961", "times b a a")
        powers, mixture = line_table([0, 0, 1]), [Ratio(999999, 999983), Ratio(-999979, 999961)]
        made = times(powers, mixture, mixture)
        self.assertEqual(self.do("show b"), [" ".join(number_word(number) for number in plain(made))])
        self.assertEqual(self.desk["b"], (powers, made))


class Wrong(DeskCase):
    def test_commands(self):
        for value in KINDS + ["numbers a", "numbers a 2 3", "", "undo 1", "numbers a 02", ["undo"], b"undo", "claim c dead a"]:
            self.fails(InvalidCommand, self.desk.do, value, value=value)
            self.fails(InvalidCommand, self.desk, value, value=value)
            for function in (self.desk.do_all, self.desk.attempt):
                with self.assertRaises(CommandFailed) as caught:
                    function("numbers a 2", value)
                self.assertEqual(caught.exception.position, 1)
                self.assertIs(type(caught.exception.__cause__), InvalidCommand)
            self.assertEqual(len(self.desk), 0)
        self.assertEqual(self.desk.do(command="names"), "-")

    def test_errors_of_deeds(self):
        self.do("powers p 0 0 1", "mixture a p 0 1", "upper u 2", "mixture b u 1 0 0", "noughts n 2", "mixture c n 1 0",
                "part q b", "part r a", "dying d u", "room m u")
        mixture = ratios([0, 1])
        for command, error, attributes in [
                ("numbers x 0", InvalidMany, {"value": 0}), ("numbers x 3", InvalidMany, {"value": 3}),
                ("upper x 4", InvalidMany, {"value": 4}), ("noughts x 0", InvalidMany, {"value": 0}),
                ("noughts x 9", InvalidMany, {"value": 9}), ("powers x 1", InvalidLine, {"value": ratios([1])}),
                ("powers x 0 0", InvalidLine, {"value": ratios([0, 0])}),
                ("powers x 0 0 0 0 0 0 0 0 0 1/2", InvalidLine, {"value": ratios([0] * 9 + [Ratio(1, 2)])}),
                ("powers x" + " 1" * 18, InvalidLine, {"value": ratios([1] * 18)}),
                ("four x 0 1", InvalidNumber, {"value": Ratio(0)}), ("four x 2 0", InvalidNumber, {"value": Ratio(0)}),
                ("web x 0", InvalidMany, {"value": 0}), ("web x 5", InvalidMany, {"value": 5}),
                ("web x 2 0-2", InvalidWeb, {"value": [(0, 2)]}), ("web x 2 0-1 1-0", InvalidWeb, {"value": [(0, 1), (1, 0)]}),
                ("web x 2 0-1 0-1 0-1 0-1 0-1 0-1 0-1", TooMany, {"what": "things", "limit": 8}),
                ("web x 2" + " 0-1" * 8, InvalidWeb, {"value": [(0, 1)] * 8}),
                ("group x 012 021 120", InvalidTurns, {"value": [[0, 1, 2], [0, 2, 1], [1, 2, 0]]}),
                ("group x 9", InvalidTurns, {"value": [[9]]}),
                ("crossed x u u", TooMany, {"what": "things", "limit": 8}), ("behind x q", NotSide, {}), ("mixture x p 1", InvalidMixture, {"value": ratios([1])}),
                ("mixture x p 1 2 3", InvalidMixture, {"value": ratios([1, 2, 3])}), ("one x n", NoOne, {}),
                ("undone x a", NotUndone, {}), ("undone x c", NoOne, {}), ("times x a b", UnlikeTables, {}),
                ("times x b a", UnlikeTables, {}), ("added x a c", UnlikeTables, {}), ("part x a b", UnlikeTables, {}),
                ("part x a a", InvalidPart, {"value": [mixture, mixture]}), ("block x u 0", Dying, {}),
                ("part x b a b", UnlikeTables, {})]:
            self.refuses(error, command, **attributes)
        self.do("drop m", "group m 01 10")
        self.refuses(InvalidPlace, "block x m 2", value=2)
        self.refuses(InvalidPlace, "block x m 99", value=99)

    def test_more_errors_of_deeds(self):
        self.do("numbers w 2", "mixture a w 0 1 1 0", "part p a", "mixture z w 0 0 0 0", "dying d w", "one e w", "part i e",
                "upper u 3", "room r u", "living l w")
        self.refuses(NotClosed, "within x p")
        self.refuses(NothingLeft, "within x d")
        self.refuses(NotSide, "behind x i")
        self.refuses(NothingLeft, "behind x l")
        self.refuses(InvalidPart, "part x z", value=[ratios([0] * 4)])
        self.refuses(TooMany, "both x r r", what="rows", limit=6)
        self.do("drop i", "drop p", "noughts n 7", "noughts o 8")
        self.refuses(TooMany, "room x n", what="rows", limit=6)
        self.refuses(TooMany, "withone x o", what="things", limit=8)
        self.refuses(TooMany, "beside x n u", what="things", limit=8)
        self.refuses(TooMany, "crossed x n u", what="things", limit=8)
        self.do("drop o", "room s w")
        self.refuses(UnlikeTables, "both x s r")
        # unlike tables ahead of too many places
        self.refuses(UnlikeTables, "both x r s")

    def test_taken_and_unknown(self):
        self.do("upper u 2", "mixture a u 1 0 0", "dying d u", "room r u", "claim c dies a", "claim u simple u")
        for command, error, attributes in [
                # first that a name is taken
                ("mixture a x 1", NameTaken, {"name": "a"}), ("numbers u 9", NameTaken, {"name": "u"}),
                ("times u x y", NameTaken, {"name": "u"}), ("claim c dies x", LabelTaken, {"label": "c"}),
                ("claim u kills x", LabelTaken, {"label": "u"}), ("room r x", NameTaken, {"name": "r"}),
                # then the first name under which nothing of the kind is kept
                ("times x y z", UnknownName, {"value": "y"}), ("times x a z", UnknownName, {"value": "z"}),
                ("times x u a", UnknownName, {"value": "u"}), ("times x a d", UnknownName, {"value": "d"}),
                ("beside x u a", UnknownName, {"value": "a"}), ("beside x z y", UnknownName, {"value": "z"}),
                ("crossed x d u", UnknownName, {"value": "d"}), ("turned x a", UnknownName, {"value": "a"}),
                ("withone x r", UnknownName, {"value": "r"}), ("within x u", UnknownName, {"value": "u"}),
                ("behind x a", UnknownName, {"value": "a"}), ("mixture x d 1", UnknownName, {"value": "d"}),
                ("one x a", UnknownName, {"value": "a"}), ("added x a r", UnknownName, {"value": "r"}),
                ("scaled x u 1", UnknownName, {"value": "u"}), ("undone x d", UnknownName, {"value": "d"}),
                ("part x a u", UnknownName, {"value": "u"}), ("part x z a y", UnknownName, {"value": "z"}),
                ("dying x a", UnknownName, {"value": "a"}), ("middle x d", UnknownName, {"value": "d"}),
                ("living x r", UnknownName, {"value": "r"}), ("block x d 0", UnknownName, {"value": "d"}),
                ("side x a", UnknownName, {"value": "a"}), ("closed x u", UnknownName, {"value": "u"}),
                ("room x r", UnknownName, {"value": "r"}), ("both x r u", UnknownName, {"value": "u"}),
                ("both x u r", UnknownName, {"value": "u"}), ("drop x", UnknownName, {"value": "x"}),
                ("drop c", UnknownName, {"value": "c"}), ("amount d 0 1", UnknownName, {"value": "d"}),
                ("claim x dies d", UnknownName, {"value": "d"}), ("claim x lives u", UnknownName, {"value": "u"}),
                ("claim x undone d", UnknownName, {"value": "d"}), ("claim x kills r", UnknownName, {"value": "r"}),
                ("claim x simple a", UnknownName, {"value": "a"}), ("claim x parted d", UnknownName, {"value": "d"}),
                ("claim x closed a", UnknownName, {"value": "a"}), ("claim x open u", UnknownName, {"value": "u"}),
                ("claim x split u", UnknownName, {"value": "u"}), ("claim x held z", UnknownName, {"value": "z"}),
                ("forget x", UnknownLabel, {"value": "x"}), ("forget a", UnknownLabel, {"value": "a"}),
                ("state a", UnknownLabel, {"value": "a"}), ("claimed x", UnknownLabel, {"value": "x"}),
                ("show c", UnknownName, {"value": "c"}), ("size x", UnknownName, {"value": "x"}),
                ("trace u", UnknownName, {"value": "u"}), ("least d", UnknownName, {"value": "d"}),
                ("full r", UnknownName, {"value": "r"}), ("power a", UnknownName, {"value": "a"}),
                ("sizes d", UnknownName, {"value": "d"}), ("traces u", UnknownName, {"value": "u"}),
                ("lots a", UnknownName, {"value": "a"})]:
            self.refuses(error, command, **attributes)

    def test_claims_without_a_one(self):
        self.do("noughts n 2", "mixture a n 1 0")
        for word in ("undone", "kills"):
            claim = (word, (noughts(2), ratios([1, 0])))
            self.refuses(InvalidClaim, f"claim x {word} a", value=claim)
        self.assertEqual(self.do("claim x dies a"), ["x true"])
        # unlike things: that it is no claim is told ahead of too many labels
        for at in range(11):
            self.do(f"claim y{at} lives a")
        self.refuses(InvalidClaim, "claim z kills a", value=("kills", (noughts(2), ratios([1, 0]))))
        self.refuses(TooMany, "claim z dies a", what="labels", limit=12)

    def test_too_many_names(self):
        for at in range(12):
            self.do(f"numbers a{at} 1")
        self.refuses(TooMany, "numbers b 1", what="names", limit=12)
        self.refuses(TooMany, "mixture b a0 1", what="names", limit=12)
        # the errors of what makes it come ahead of it
        self.refuses(InvalidMany, "numbers b 3", value=3)
        self.refuses(NameTaken, "numbers a0 1", name="a0")
        self.refuses(UnknownName, "mixture b c 1", value="c")
        self.assertEqual(self.do("claim x simple a0", "drop a3", "numbers b 2"), ["x true", "-", "-"])
        self.refuses(TooMany, "numbers c 1", what="names", limit=12)

    def test_too_many_labels(self):
        self.do("numbers a 1")
        for at in range(12):
            self.assertEqual(self.do(f"claim x{at} simple a"), [f"x{at} true"])
        self.refuses(TooMany, "claim y parted a", what="labels", limit=12)
        self.refuses(LabelTaken, "claim x1 parted a", label="x1")
        self.refuses(UnknownName, "claim y parted b", value="b")
        self.assertEqual(self.do("numbers b 1", "forget x4", "claim y parted a"), ["-", "-", "y false"])
        self.assertEqual(len(self.desk.labels), 12)

    def test_too_many_deeds(self):
        commands = ["powers p 0 0 1", "mixture a p 1 0"] + [f"amount a {at % 2} {at}" for at in range(297)]
        self.assertEqual(self.desk.do_all(*commands), ["-"] * 299)
        self.assertEqual(len(self.desk), 299)
        self.assertEqual(self.do("amount a 0 -5"), ["-"])
        for command in ("amount a 0 0", "drop a", "numbers b 1", "claim x dies a"):
            self.refuses(TooMany, command, what="deeds", limit=300)
        self.refuses(UnknownLabel, "forget x", value="x")
        self.refuses(InvalidPlace, "amount a 2 0", value=2)
        self.assertEqual(self.do("show a", "undo", "undo", "redo", "show a", "redo", "show a"),
                         ["-5 295", "amount a 0 -5", "amount a 0 296", "amount a 0 296", "296 295", "amount a 0 -5", "-5 295"])
        self.refuses(TooMany, "amount a 0 0", what="deeds", limit=300)
        self.assertEqual(len(self.desk), 300)
        for at in range(11):
            self.do("undo")
        self.do(*[f"numbers b{at} 1" for at in range(10)])
        self.do("claim x dies a")
        # more than one limit: names, then labels, then deeds
        self.refuses(TooMany, "numbers c 1", what="names", limit=12)
        again = Desk.again(self.desk.lines())
        self.assertEqual(self.kept(again), self.kept())
        self.fails(InvalidLines, Desk.again, self.desk.lines() + ["undo"], position=300)
        with self.assertRaises(CommandFailed) as caught:
            Desk.again(self.desk.lines() + ["drop p"])
        self.assertEqual(caught.exception.position, 300)
        self.assertIs(type(caught.exception.__cause__), TooMany)


class Back(DeskCase):
    def test_undo_and_redo(self):
        self.refuses(NothingToUndo, "undo")
        self.refuses(NothingToRedo, "redo")
        commands = ["upper u 2", "mixture a u 0 1 0", "claim x dies a", "amount a 0 1", "claim y kills a", "dying d u",
                    "claim z closed d", "drop a", "forget y", "mixture a u 1 1 1", "drop d", "forget z"]
        states = [self.kept()]
        for command in commands:
            self.desk.do(command)
            states.append(self.kept())
        for at in reversed(range(len(commands))):
            self.assertEqual(len(self.desk), at + 1)
            self.assertEqual(self.do("undo"), [commands[at]])
            self.assertEqual(self.kept(), states[at])
        self.refuses(NothingToUndo, "undo")
        for at, command in enumerate(commands):
            self.assertEqual(self.do("redo"), [command])
            self.assertEqual(self.kept(), states[at + 1])
        self.refuses(NothingToRedo, "redo")

    def test_a_new_deed_between(self):
        self.do("numbers a 1", "numbers b 2", "undo")
        # no deed, and one that fails, does not change what can be done again
        self.do("names", "states", "show a")
        self.refuses(NameTaken, "numbers a 2", name="a")
        self.assertEqual(self.do("redo"), ["numbers b 2"])
        self.do("undo", "undo", "numbers c 1")
        self.refuses(NothingToRedo, "redo")
        self.assertEqual(self.desk.lines(), ["numbers c 1"])
        self.do("undo")
        self.assertEqual(self.do("redo"), ["numbers c 1"])
        self.do("undo", "upper c 2")
        self.refuses(NothingToRedo, "redo")

    def test_example(self):
        self.assertEqual(self.desk.do_all(
            "powers p 0 0 1", "mixture a p 0 1", "claim up dies a", "dying d p", "show d", "amount a 0 1", "state up",
            "undone b a", "show b"), ["-", "-", "up true", "-", "0 1", "up false", "false", "-", "1 -1"])
        self.assertEqual(self.desk.do_all("undo", "undo", "state up", "trace a", "living l p", "show l", "power p"),
                         ["undone b a", "amount a 0 1", "true", "0", "-", "1 0", "2"])

    def test_lines(self):
        self.assertEqual(self.desk.lines(), [])
        self.do("numbers a 1", "names", "claim x simple a", "undo", "redo", "forget x", "undo")
        self.assertEqual(self.desk.lines(), ["numbers a 1", "claim x simple a"])
        told = self.desk.lines()
        fresh(told)
        self.assertEqual(self.desk.lines(), ["numbers a 1", "claim x simple a"])
        self.assertEqual(len(self.desk), 2)

    def test_random_walks(self):
        # whatever is done: as if the lines had been done at once
        names, done = list("abcd"), 0
        for seed in range(10):
            seeded, self.desk = random.Random(seed), Desk()
            for _ in range(60):
                first, second, third = (seeded.choice(names) for _ in range(3))
                command = seeded.choice([
                    f"upper {first} 2", f"powers {first} 0 0 0 1", f"numbers {first} 2", f"mixture {first} {second} 0 1 0",
                    f"mixture {first} {second} 1 0 1", f"amount {first} 1 {seeded.randint(-1, 1)}", f"dying {first} {second}",
                    f"room {first} {second}", f"drop {first}", f"claim {first} dies {second}", f"claim {first} kills {second}",
                    f"claim {first} parted {second}", f"claim {first} open {second}", f"claim {first} held {second}",
                    f"forget {first}", "undo", "undo", "redo", f"times {first} {second} {third}", f"living {first} {second}",
                    f"part {first} {second}", f"within {first} {second}", f"one {first} {second}"])
                before = self.kept()
                try:
                    told = self.desk.do(command)
                except (MixError, MissingError, StateError, LimitError):
                    self.assertEqual(self.kept(), before)
                    continue
                done += 1
                if command not in ("undo", "redo"):
                    self.assertEqual(told, changes(before, self.kept()))
                self.check_states()
            self.assertEqual(self.kept(Desk.again(self.desk.lines())), self.kept())
        self.assertGreater(done, 150)

    def check_states(self):
        for label in self.desk.labels:
            word, name = self.desk.do(f"claimed {label}").split()
            claim = (word, self.desk[name]) if name in self.desk else None
            if claim is None or not is_claim(claim):
                self.assertIsNone(self.desk.claim_of(label))
                self.assertEqual(self.desk.do(f"state {label}"), "gone")
            else:
                self.assertEqual(self.desk.claim_of(label), claim)
                self.assertEqual(self.desk.do(f"state {label}"), "true" if is_true(claim) else "false")


def changes(before, after):
    """What a deed's answer tells, by all that was told ahead of it and behind it."""
    def states(told):
        return dict(one.split() for one in told[4].split(", ")) if told[4] != "-" else {}

    ahead, behind_it = states(before), states(after)
    changed = [f"{label} {behind_it[label]}" for label in sorted(behind_it) if ahead.get(label) != behind_it[label]]
    return ", ".join(changed) or "-"


class All(DeskCase):
    def test_do_all(self):
        self.assertEqual(self.desk.do_all(), [])
        self.assertEqual(self.desk.do_all("numbers a 1", "claim x simple a", "names"), ["-", "x true", "a"])
        before = self.kept()
        for commands, position, error in [
                (("numbers b 1", "numbers b 2"), 1, NameTaken), (("undo", "undo", "undo"), 2, NothingToUndo),
                (("numbers b 3",), 0, InvalidMany), (("drop a", "drop a"), 1, UnknownName),
                (("numbers b 1", "numbers c 1", None), 2, InvalidCommand), (("undo", "redo", "redo"), 2, NothingToRedo),
                (("drop a", "show a", "numbers b 1"), 1, UnknownName), (("numbers b 1", "claim y simple b", "sizes x"), 2,
                                                                       UnknownName),
                (("upper u 2", "sizes u"), 1, Dying), (("upper u 3", "crossed x u u"), 1, TooMany)]:
            for function in (self.desk.do_all, self.desk.attempt):
                with self.assertRaises(CommandFailed) as caught:
                    function(*commands)
                self.assertEqual(caught.exception.position, position)
                self.assertIs(type(caught.exception.__cause__), error)
                self.assertEqual(self.kept(), before)

    def test_what_can_be_done_again_stays(self):
        self.do("numbers a 1", "numbers b 1", "undo")
        with self.assertRaises(CommandFailed):
            self.desk.do_all("numbers c 1", "undo", "undo", "undo")
        self.assertEqual(self.do("redo"), ["numbers b 1"])
        self.do("undo")
        self.assertEqual(self.desk.attempt("numbers c 1", "undo", "undo"), ["-", "numbers c 1", "numbers a 1"])
        self.assertEqual(self.do("redo"), ["numbers b 1"])

    def test_attempt(self):
        before = self.kept()
        self.assertEqual(self.desk.attempt("numbers a 1", "claim x simple a", "undo", "names"),
                         ["-", "x true", "claim x simple a", "a"])
        self.assertEqual(self.kept(), before)
        self.assertEqual(self.desk.attempt(), [])
        self.do("numbers a 1")
        self.assertEqual(self.desk.attempt("drop a", "names", "undo", "undo"), ["-", "-", "drop a", "numbers a 1"])
        self.assertEqual(self.desk.names, ["a"])


class Trials(DeskCase):
    def test_trial(self):
        self.do("powers p 0 0 1", "mixture a p 0 1", "claim x dies a", "numbers b 1", "undo")
        self.desk.attach("x", ([[0, 1]], 2))
        before = self.kept()
        with Trial(self.desk) as held:
            self.assertIs(held, self.desk)
            held.do_all("amount a 0 1", "numbers c 1", "undo")
            held.attach("x", [1, 0])
            self.assertIs(held.fits("x"), True)
            self.assertNotEqual(self.kept(), before)
        self.assertEqual(self.kept(), before)
        self.assertEqual(self.do("redo"), ["numbers b 1"])

    def test_an_error_leaves_it(self):
        self.do("numbers a 1")
        before = self.kept()
        for error in (ValueError, NoOne, KeyError):
            with self.assertRaises(error):
                with Trial(desk=self.desk) as held:
                    held.do("drop a")
                    raise error()
            self.assertEqual(self.kept(), before)
        with self.assertRaises(UnknownName):
            with Trial(self.desk) as held:
                held.do("drop a")
                held.do("drop a")
        self.assertEqual(self.kept(), before)

    def test_one_behind_another_and_within(self):
        trial = Trial(self.desk)
        for name in ("a", "b"):
            with trial as held:
                held.do(f"numbers {name} 1")
                with Trial(held) as inner:
                    inner.do("numbers c 1")
                    self.assertEqual(inner.names, [name, "c"])
                self.assertEqual(held.names, [name])
            self.assertEqual(self.desk.names, [])
        self.do("numbers z 1")
        with trial:
            self.do("drop z")
        self.assertEqual(self.desk.names, ["z"])

    def test_tried(self):
        self.do("numbers a 1")
        before = self.kept()

        def action(desk):
            self.assertIs(desk, self.desk)
            return desk.do_all("upper b 2", "names"), desk["b"]

        self.assertEqual(tried(self.desk, action), (["-", "a b"], upper_table(2)))
        self.assertEqual(self.kept(), before)
        self.assertEqual(tried(desk=self.desk, action=lambda desk: desk.do("drop a")), "-")
        self.assertIsNone(tried(self.desk, lambda desk: None))
        with self.assertRaises(CommandFailed):
            tried(self.desk, lambda desk: desk.do_all("drop a", "drop a"))
        with self.assertRaises(ZeroDivisionError):
            tried(self.desk, lambda desk: (desk.do("drop a"), 1 // 0))
        self.assertEqual(self.kept(), before)


class Papers(DeskCase):
    def test_attach(self):
        self.do("powers p 0 0 1", "mixture a p 0 1", "claim x dies a", "claim y kills a", "claim z simple p")
        self.assertEqual([self.desk.fits(label) for label in "xyz"], [False] * 3)
        for label in "xyz":
            claim = self.desk.claim_of(label)
            paper = paper_of(claim) if is_true(claim) else paper_of(contrary(claim))
            self.assertIsNone(self.desk.attach(label, paper))
            self.assertIs(self.desk.fits(label), True)
            kept = len(self.desk), self.desk.lines()
            for value in KINDS:
                if not is_paper_of(claim, value) and not is_paper_of(contrary(claim), value):
                    self.fails(InvalidPaper, self.desk.attach, label, value, value=value)
                    self.assertIs(self.desk.fits(label), True)
            self.assertEqual((len(self.desk), self.desk.lines()), kept)
        self.assertIs(self.desk.fits(label="x"), True)
        self.desk.attach(label="x", paper=([[0, 3]], 3))
        self.assertIs(self.desk.fits("x"), True)

    def test_as_things_are(self):
        self.do("powers p 0 0 1", "mixture a p 0 1", "claim x dies a")
        self.desk.attach("x", ([[0, 1]], 2))
        for commands, wanted in [(["amount a 0 1"], False), (["undo"], True), (["amount a 1 7"], True), (["amount a 1 0"], True),
                                 (["drop a"], False), (["mixture a p 0 2"], True), (["drop a", "one a p"], False),
                                 (["amount a 0 0"], True), (["drop p"], True)]:
            self.desk.do_all(*commands)
            self.assertIs(self.desk.fits("x"), wanted)
        self.do("drop a")
        # while the state is gone no paper is one
        self.fails(InvalidPaper, self.desk.attach, "x", ([[0, 1]], 2), value=([[0, 1]], 2))
        self.do("numbers a 1")
        self.fails(InvalidPaper, self.desk.attach, "x", ([[0, 1]], 2), value=([[0, 1]], 2))
        self.assertIs(self.desk.fits("x"), False)

    def test_of_the_contrary(self):
        self.do("powers p 0 0 1", "mixture a p 1 1", "claim x dies a")
        # it lives: a partner
        self.desk.attach("x", [1, 0])
        self.assertIs(self.desk.fits("x"), True)
        self.do("amount a 0 0")
        self.assertIs(self.desk.fits("x"), False)
        self.fails(InvalidPaper, self.desk.attach, "x", [1, 0], value=[1, 0])
        self.desk.attach("x", ([[0, 1]], 2))
        self.assertIs(self.desk.fits("x"), True)
        self.do("amount a 0 3")
        # that one took the place of the other one
        self.assertIs(self.desk.fits("x"), False)

    def test_forgotten_and_noted_again(self):
        self.do("powers p 0 0 1", "mixture a p 0 1", "mixture b p 0 2", "claim x dies a")
        paper = ([[0, 1]], 2)
        self.desk.attach("x", paper)
        self.do("forget x")
        self.fails(UnknownLabel, self.desk.fits, "x", value="x")
        self.fails(UnknownLabel, self.desk.attach, "x", paper, value="x")
        # for its words: of the same word and name
        for command, wanted in [("claim x dies b", False), ("claim x lives a", False), ("claim x parted p", False),
                                ("claim x dies a", True), ("claim x kills a", False), ("claim x dies a", True)]:
            self.do(command)
            self.assertIs(self.desk.fits("x"), wanted)
            self.do("forget x")
        self.do("claim x parted p")
        self.desk.attach("x", ("dying", [0, 1]))
        self.assertIs(self.desk.fits("x"), True)
        self.do("forget x", "claim x dies a")
        self.assertIs(self.desk.fits("x"), False)

    def test_not_taken_back(self):
        self.do("powers p 0 0 1", "mixture a p 0 1", "claim x dies a")
        self.desk.attach("x", ([[0, 1]], 2))
        self.do("undo")
        self.fails(UnknownLabel, self.desk.fits, "x", value="x")
        self.do("redo")
        self.assertIs(self.desk.fits("x"), True)
        self.do("undo", "claim x lives a")
        self.assertIs(self.desk.fits("x"), False)
        self.assertEqual(self.desk.attempt("forget x"), ["-"])

    def test_copies(self):
        self.do("powers p 0 0 1", "mixture a p 0 1", "claim x dies a")
        part = [[0, 1]]
        self.desk.attach("x", (part, 2))
        fresh(part)
        self.assertIs(self.desk.fits("x"), True)
        claim = self.desk.claim_of("x")
        fresh(claim[1])
        self.assertEqual(self.desk.claim_of("x"), ("dies", (line_table([0, 0, 1]), ratios([0, 1]))))

    def test_all_kinds(self):
        self.do("upper u 2", "mixture a u 1 0 1", "dying d u", "room r u", "claim b undone a", "claim c closed d",
                "claim e split r", "claim f held r", "claim g open d", "claim h lives a", "claim i simple u")
        for label in self.desk.labels:
            claim = self.desk.claim_of(label)
            for paper in (paper_of(claim), paper_of(contrary(claim))):
                if paper is not None:
                    self.desk.attach(label, paper)
                    self.assertIs(self.desk.fits(label), True)

    def test_wrong(self):
        self.do("numbers a 1", "claim x simple a")
        for value in KINDS + ["y", "X", "claim x", ["x"], ("x",)]:
            self.fails(UnknownLabel, self.desk.fits, value, value=value)
            self.fails(UnknownLabel, self.desk.claim_of, value, value=value)
            self.fails(UnknownLabel, self.desk.attach, value, None, value=value)


class Desks(DeskCase):
    def test_items(self):
        self.assertEqual((self.desk.names, self.desk.labels, len(self.desk)), ([], [], 0))
        self.do("numbers b 1", "mixture a b 2", "claim x dies a", "claim a lives a")
        self.assertEqual((self.desk.names, self.desk.labels, len(self.desk)), (["a", "b"], ["a", "x"], 4))
        for told in (self.desk.names, self.desk.labels):
            fresh(told)
        self.assertEqual((self.desk.names, self.desk.labels), (["a", "b"], ["a", "x"]))
        for value in KINDS + ["x", "c", ("a",), ["a"], "A", b"a"]:
            wanted = value in ("a",) and type(value) is str
            self.assertIs(value in self.desk, wanted, value)
            if not wanted:
                self.fails(UnknownName, self.desk.__getitem__, value, value=value)
        self.assertIs("a" in self.desk, True)
        self.assertIs("x" not in self.desk, True)
        self.assertEqual(self.desk.claim_of(label="x"), ("dies", (numbers_table(1), ratios([2]))))
        with self.assertRaises(UnknownName):
            self.desk["x"]
        with self.assertRaises(AttributeError):
            self.desk.names = []
        with self.assertRaises(TypeError):
            list(self.desk)

    def test_copy(self):
        self.do("powers p 0 0 1", "mixture a p 0 1", "claim x dies a", "numbers b 1", "undo")
        self.desk.attach("x", ([[0, 1]], 2))
        other = self.desk.copy()
        self.assertIs(type(other), Desk)
        self.assertEqual(self.kept(other), self.kept())
        before = self.kept()
        self.assertEqual(other.do_all("redo", "undo", "amount a 0 1", "claim y parted p"),
                         ["numbers b 1", "numbers b 1", "x false", "y true"])
        other.attach("x", [1, 0])
        self.assertEqual(self.kept(), before)
        then = self.kept(other)
        self.assertEqual(self.do("redo"), ["numbers b 1"])
        self.do("drop a")
        self.assertEqual(self.kept(other), then)
        self.assertEqual(other.copy().fits("x"), True)

    def test_again(self):
        self.do("powers p 0 0 1", "mixture a p 0 1", "claim x dies a", "amount a 0 1", "undo", "dying d p")
        for lines in (self.desk.lines(), tuple(self.desk.lines())):
            again = Desk.again(lines)
            self.assertIs(type(again), Desk)
            self.assertEqual(self.kept(again), self.kept())
            self.assertEqual(self.kept(self.desk.again(lines=lines)), self.kept())
        self.assertEqual(self.kept(Desk.again([])), self.kept(Desk()))
        self.assertEqual(self.kept(Desk.again(())), self.kept(Desk()))
        lines = self.desk.lines()
        again = Desk.again(lines)
        fresh(lines)
        self.assertEqual(self.kept(again), self.kept())

    def test_again_with_wrong_values(self):
        for value in KINDS:
            if not isinstance(value, (list, tuple)):
                self.fails(InvalidLines, Desk.again, value, position=None)
            elif len(value):
                self.fails(InvalidLines, Desk.again, value, position=0)
        for lines, position in [(["numbers a 1", "names"], 1), (["numbers a 1", "undo"], 1), (["numbers a 1", None], 1),
                                (["numbers a 1", "numbers a 1", "x"], 2), (["names"], 0), (["numbers a"], 0),
                                ([["numbers a 1"]], 0), (["numbers a 1", "numbers b 1", "states", "redo"], 2)]:
            self.fails(InvalidLines, Desk.again, lines, position=position)
        for lines, position, error in [(["numbers a 1", "numbers a 1"], 1, NameTaken), (["drop a"], 0, UnknownName),
                                       (["upper u 2", "room r u", "both b r r", "both c b r"], 3, TooMany),
                                       (["numbers a 3"], 0, InvalidMany), (["noughts n 1", "one o n"], 1, NoOne)]:
            with self.assertRaises(CommandFailed) as caught:
                Desk.again(lines)
            self.assertEqual(caught.exception.position, position)
            self.assertIs(type(caught.exception.__cause__), error)

    def test_call(self):
        self.assertEqual(self.desk("numbers a 1"), "-")
        self.assertEqual(self.desk(command="claim x simple a"), "x true")
        self.assertEqual(self.desk("undo"), "claim x simple a")
        self.assertEqual(self.desk.lines(), ["numbers a 1"])


if __name__ == "__main__":
    unittest.main()

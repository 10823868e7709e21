"""The examples of the document's interface, as they stand, one behind another."""

import doctest
import unittest

STAGE_1 = '''
>>> from producttables.ratios import Ratio
>>> [Ratio(4, -6), str(Ratio(1, 2) + 3), Ratio(1, 3).is_below(Ratio(2, 5))]
[Ratio(-2, 3), '7/2', True]
>>> from producttables.steps import joined, killed, made_of, rank, shared, steps
>>> [steps([[0, 2], [0, 3]]), rank([[1, 2], [2, 4]]), killed([[1, 2]], 2) == [[Ratio(1), Ratio(-1, 2)]], made_of([[1, 1], [0, 2]], [3, 5]) == [Ratio(3), Ratio(1)]]
[[[Ratio(0, 1), Ratio(1, 1)]], 1, True, True]
>>> [joined([[1, 0, 0]], [[1, 1, 0]]) == steps([[1, 0, 0], [0, 1, 0]]), shared([[1, 0], [0, 1]], [[2, 2]]), made_of([[1, 1]], [1, 2])]
[True, [[Ratio(1, 1), Ratio(1, 1)]], None]
>>> from producttables.tables import Table, bad_places, one, power, times
>>> root = Table([[[1, 0], [0, 1]], [[0, 1], [2, 0]]])
>>> [root.size, times(root, [1, 1], [1, 1]) == [Ratio(3), Ratio(2)], one(root) == root.thing(0), power(root, [0, 1], 4) == [Ratio(4), Ratio(0)], bad_places([[[0, 1], [1, 0]], [[0, 0], [0, 0]]])]
[2, True, True, True, (0, 0, 0)]
'''

STAGE_2 = '''
>>> from producttables.makers import behind, beside, crossed, four_table, in_letters, led_behind, line_table, noughts, upper_table, with_one
>>> [line_table([-2, 0, 1]) == root, line_table([-4, 0, 2]) == root, upper_table(2).size, crossed(root, upper_table(2)).size, beside(root, noughts(1)).rows()[2][2] == [Ratio(0)] * 3]
[True, True, 3, 6, True]
>>> [times(four_table(-1, -1), [0, 0, 1, 0], [0, 1, 0, 0]) == [Ratio(0), Ratio(0), Ratio(0), Ratio(-1)], behind(upper_table(2), [[0, 1, 0]]).size, led_behind(upper_table(2), [[1, 1, 0], [0, 1, 0]], [3, 1, 2]) == [Ratio(2)], in_letters(root, [[0, 1], [1, 0]]).rows()[0][0] == [Ratio(0), Ratio(2)]]
[True, 2, True, True]
>>> from producttables.lefts import full_line, left_table, right_table, trace
>>> from producttables.makers import line_table, upper_table
>>> corner, hooks = upper_table(2), line_table([0, 0, 0, 1])
>>> [[str(number) for number in row] for row in left_table(corner, [1, 0, 0])] + [str(trace(corner, [1, 0, 0]))] + [str(number) for number in full_line(corner, [1, 0, 0])]
[['1', '0', '0'], ['0', '1', '0'], ['0', '0', '0'], '2', '0', '1', '-2', '1']
>>> from producttables.lowest import least_line, line_at, nothing_power, powers_part
>>> [[str(number) for number in line_at(hooks, [1, 2, 1], [0, 1, 0])], [str(number) for number in least_line(corner, [1, 0, 0])]]
[['1', '2', '1'], ['0', '-1', '1']]
>>> [nothing_power(corner, [0, 5, 0]), nothing_power(corner, [1, 0, 0]), nothing_power(hooks, [0, 1, 1]), len(powers_part(corner, [1, 1, 0]))]
[2, None, 3, 1]
>>> from producttables.undoing import commuting, is_killer, is_own_square, killer, undone
>>> [[str(number) for number in undone(hooks, [1, 1, 0])], undone(hooks, [0, 1, 1]), killer(hooks, [1, 1, 0]), is_killer(corner, [1, 0, 0], [0, 0, 2])]
[['1', '-1', '1'], None, None, True]
>>> [len(commuting(corner, [[1, 0, 0]])), len(commuting(corner, [])), is_own_square(corner, [1, 1, 0]), is_own_square(corner, [0, 1, 0])]
[2, 3, True, False]
>>> from producttables.lines import bare, degree, divided, times, worth
>>> from producttables.ratios import Ratio
>>> [degree([1, 0, 2, 0]), times([1, 1], [-1, 1]) == [Ratio(-1), Ratio(0), Ratio(1)], worth([1, Ratio(1, 2)], 4), bare([12, 12, 3]) == [Ratio(2), Ratio(1)], divided([1, 0, 1], [0, 2])[1]]
[2, True, Ratio(3, 1), True, [Ratio(1, 1)]]
'''

STAGE_3 = '''
>>> from producttables.factors import factors, is_whole
>>> [([str(number) for number in factor], many) for factor, many in factors([0, 0, -2, 0, 2])]
[(['-1', '1'], 1), (['0', '1'], 2), (['1', '1'], 1)]
>>> [is_whole([1, 0, 0, 0, 1]), is_whole([-1, 0, 4]), is_whole([Ratio(1, 3), 5]), is_whole([7])]
[True, False, True, False]
>>> from producttables.wholes import is_parting_pair, is_whole_paper, parting_pair
>>> [is_parting_pair([-1, 0, 1], ([1, 1], [-1, 1])), parting_pair([1, 0, 1]), is_whole_paper([1, 0, 1], (3, 3, [[1, 0, 1]])), is_whole_paper([1, 0, 1], (3, 2, [[1, 0, 1]]))]
[True, None, True, False]
>>> [is_whole_paper([1, 0, 1], (5, 2, [[7, 1], [18, 1]])), is_whole_paper([-1, 0, 1], (5, 2, [[1, 1], [24, 1]]))]
[True, False]
'''

STAGE_4 = '''
>>> from producttables.makers import line_table, noughts, upper_table
>>> from producttables.traces import trace_with, traces
>>> upper = upper_table(2)
>>> [[[str(number) for number in row] for row in traces(upper)], str(trace_with(upper, [1, 4, 0], [3, 0, 5]))]
[[['2', '0', '0'], ['0', '0', '0'], ['0', '0', '1']], '6']
>>> from producttables.parts import closed_of, is_closed, is_part, is_side, part_power, side_of
>>> [is_part(upper, [[1, 0, 1], [2, 0, 2]]), is_closed(upper, [[1, 0, 1]]), is_side(upper, [[1, 0, 1]]), part_power(upper, [[0, 5, 0]], 2)]
[False, True, False, []]
>>> [len(side_of(upper, [[1, 0, 0]])), len(closed_of(upper, [[1, 1, 0]])), len(side_of(upper, []))]
[2, 1, 0]
>>> from producttables.dying import dies, dying, dying_power, is_dying_paper, is_partner
>>> power = line_table([0, 0, 0, 1])
>>> [len(dying(power)), dying_power(power), dying_power(noughts(2)), dies(upper, [0, 3, 0]), dies(upper, [1, 0, 0])]
[2, 3, 2, True, False]
>>> [is_partner(upper, [1, 0, 0], [1, 5, 0]), is_dying_paper(upper, [0, 3, 0], ([[0, 1, 0]], 2)), is_dying_paper(upper, [0, 3, 0], ([[0, 1, 0]], 1))]
[True, True, False]
'''

STAGE_5 = '''
>>> from producttables.makers import beside, line_table, numbers_table, upper_table
>>> from producttables.middle import full_one, is_middle, middle
>>> [len(middle(numbers_table(2))), is_middle(numbers_table(2), [1, 0, 0, 1]), len(full_one(line_table([-2, 0, 1]))[1]), len(middle(upper_table(2)))]
[1, True, 3, 1]
>>> from producttables.parting import block_sizes, is_parting, is_simple, parting, square_zero
>>> falls = beside(line_table([-1, 0, 1]), numbers_table(2))
>>> [block_sizes(falls), [str(number) for number in parting(line_table([-1, 0, 1]))[0]], is_simple(numbers_table(2)), is_simple(falls)]
[[(4, 1), (1, 1), (1, 1)], ['1/2', '-1/2'], True, False]
>>> [is_parting(falls, [[1, 0, 0, 0, 0, 0], [0, 0, 1, 0, 0, 1]]), square_zero(numbers_table(2), [0, 1, 0, 0]), is_simple(upper_table(2))]
[True, True, False]
>>> from producttables.lifting import is_lifted, lifted
>>> [len(lifted(upper_table(2), [[1, 0], [0, 1]])), is_lifted(upper_table(2), [[1, 0]], [[1, 5, 0]]), is_lifted(upper_table(2), [[1, 0]], [[1, 0, 1]])]
[2, True, False]
'''

STAGE_6 = '''
>>> from producttables.partners import partners
>>> from producttables.ratios import Ratio
>>> from producttables.makers import line_table
>>> partners(line_table([-2, 0, 1])) == [[Ratio(1, 2), Ratio(0)], [Ratio(0), Ratio(1, 4)]]
True
>>> from producttables.living import halves, is_living, lift
>>> from producttables.makers import upper_table
>>> upper = upper_table(2)
>>> [is_living(upper, [[1, 0, 0], [0, 0, 1]]), is_living(upper, [[1, 0, 1], [0, 1, 1]]), is_living(upper, [[1, 0, 1]])]
[True, True, False]
>>> [halves(upper, [[1, 0, 1], [0, 1, 1]], [1, 0, 0]) == ([Ratio(1), Ratio(-1), Ratio(0)], [Ratio(0), Ratio(1), Ratio(0)]), lift(upper, [[1, 0, 1], [0, 1, 1]], [0, 1]) == [Ratio(0), Ratio(1), Ratio(1)]]
[True, True]
>>> from producttables.turnings import is_turning, turned_part, turning
>>> [turned_part(upper, [[1, 0, 0], [0, 0, 1]], [0, 1, 0]) == [[Ratio(1), Ratio(0), Ratio(1)], [Ratio(0), Ratio(1), Ratio(1)]], is_turning(upper, [[1, 0, 0], [0, 0, 1]], [[1, 0, 1], [0, 1, 1]], [0, 1, 0])]
[True, True]
>>> turning(upper, [[1, 0, 0], [0, 0, 1]], [[1, 0, 1], [0, 1, 1]]) == [Ratio(0), Ratio(1), Ratio(0)]
True
'''

STAGE_7 = '''
>>> from producttables.makers import upper_table
>>> from producttables.rooms import Room, acts, is_full, is_kept, room_behind, room_within, traces_of
>>> two = Room(upper_table(2), [[[1, 0], [0, 0]], [[0, 0], [1, 0]], [[0, 0], [0, 1]]])
>>> [is_kept(two, [[1, 0]]), is_kept(two, [[0, 1]]), is_full(two), room_within(two, [[2, 0]]).size, str(acts(two, [3, 5, 0])[1][0]), [str(number) for number in traces_of(room_behind(two, [[1, 0]]))]]
[True, False, True, 1, '5', ['0', '0', '1']]
>>> from producttables.lots import is_split, layer_lots, layers, lots, nought_lot, same_lots
>>> [lots(two), nought_lot(two), is_split(two), layers(two), layer_lots(two)]
[[1, 1], 0, False, [2, 1], [[1, 0, 0], [0, 1, 0]]]
>>> same_lots(two, Room(upper_table(2), [[[0, 0], [0, 1]], [[0, 0], [0, 0]], [[1, 0], [0, 0]]]))
True
>>> from producttables.maps import is_map, maps
>>> [[str(number) for number in row] for row in maps(two, two)]
[['1', '0', '0', '1']]
>>> [is_map(two, two, [[3, 0], [0, 3]]), is_map(two, two, [[1, 0], [0, 2]])]
[True, False]
'''

STAGE_8 = '''
>>> from producttables.rooms import own_room
>>> from producttables.turns import beside_room, group_table, is_turns, rings
>>> two = [[0, 1], [1, 0]]
>>> [is_turns(two), is_turns([[0, 1, 2], [1, 2, 0]]), group_table(two).rows()[1][1], rings([[0, 1, 2], [1, 2, 0], [2, 0, 1]])]
[True, False, [Ratio(1, 1), Ratio(0, 1)], [[[0]], [[0, 1, 2]]]]
>>> steps(beside_room(own_room(group_table(two)), [[1, 1]])) == [[Ratio(1), Ratio(-1)]]
True
>>> from producttables.webs import paths, web_table
>>> [paths(3, [(0, 1), (1, 2)]), web_table(2, [(0, 1)]).size]
[[(0, ()), (1, ()), (2, ()), (0, (0,)), (1, (1,)), (0, (0, 1))], 3]
'''

STAGE_9 = r'''
>>> from producttables.meets import meet_squares, meet_table
>>> [meet_table([(), (0,)]).rows()[0][1], meet_squares([(), (0,)])]
[[Ratio(1, 1), Ratio(0, 1)], [[Ratio(-1, 1), Ratio(1, 1)], [Ratio(1, 1), Ratio(0, 1)]]]
>>> from producttables.tables import Table
>>> from producttables.texts import written
>>> [written(Table([[[1, 0], [0, 1]], [[0, 1], [0, 0]]])), written([[1, 2], [0, 3]]), written([0, 5])]
['table\nsize 2\ntimes 0 0 1 0\ntimes 0 1 0 1\ntimes 1 0 0 1\n', 'grid\nrow 1 2\nrow 0 3\n', 'numbers 0 5\n']
>>> from producttables.forms import read
>>> [Table(read("table\nsize 1\ntimes 0 0 2\n")) == Table([[[2]]]), read("grid\n"), read("grid\nrow 1/2\n") == [[read("numbers 1/2\n")[0]]]]
[True, [], True]
>>> from producttables.claims import contrary, is_paper_of, is_true
>>> short = Table([[[1, 0], [0, 1]], [[0, 1], [0, 0]]])
>>> [is_true(("dies", (short, [0, 1]))), contrary(("kills", (short, [0, 1])))[0], is_paper_of(("kills", (short, [0, 1])), [0, 3]), is_paper_of(("undone", (short, [1, 1])), [1, -1]), is_paper_of(("parted", short), ("dying", [0, 1]))]
[True, 'undone', True, True, True]
>>> from producttables.commands import is_command, is_deed
>>> [is_command("mixture a t 1 0 -3/2"), is_command("four q 1"), is_deed("web w 2 0-1"), is_command("group g 012 021"), is_deed("undo")]
[True, False, True, True, False]
>>> from producttables.desk import Desk
>>> desk = Desk()
>>> desk.do_all("powers p 0 0 1", "mixture a p 0 1", "claim up dies a", "dying d p", "show d", "amount a 0 1", "state up", "undone b a", "show b")
['-', '-', 'up true', '-', '0 1', 'up false', 'false', '-', '1 -1']
>>> desk.do_all("undo", "undo", "state up", "trace a", "living l p", "show l", "power p")
['undone b a', 'amount a 0 1', 'true', '0', '-', '1 0', '2']
'''


class Examples(unittest.TestCase):
    def test_examples(self):
        names = {}
        for at, text in enumerate([STAGE_1, STAGE_2, STAGE_3, STAGE_4, STAGE_5, STAGE_6, STAGE_7, STAGE_8, STAGE_9]):
            test = doctest.DocTestParser().get_doctest(text, names, f"stage {at + 1}", None, 0)
            said = []
            doctest.DocTestRunner(verbose=False).run(test, out=said.append, clear_globs=False)
            self.assertEqual("".join(said), "")
            names = test.globs


if __name__ == "__main__":
    unittest.main()

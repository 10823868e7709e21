"""The examples of the document's interface, as they stand, one behind another."""

import doctest
import unittest

STAGE_1 = '''
>>> from producttables.ratios import Ratio
>>> [Ratio(4, -6), str(Ratio(1, 2) + 3), Ratio(1, 3).is_below(Ratio(2, 5))]
[Ratio(-2, 3), '7/2', True]
>>> from producttables.steps import joined, killed, made_of, rank, shared, steps
>>> [steps([[0, 2], [0, 3]]), rank([[1, 2], [2, 4]]), killed([[1, 2]], 2) == [[Ratio(1), Ratio(-1, 2)]], made_of([[1, 1], [0, 2]], [3, 5]) == [Ratio(3), Ratio(1)]]
[[[Ratio(0, 1), Ratio(1, 1)]], 1, True, True]
>>> [joined([[1, 0, 0]], [[1, 1, 0]]) == steps([[1, 0, 0], [0, 1, 0]]), shared([[1, 0], [0, 1]], [[2, 2]]), made_of([[1, 1]], [1, 2])]
[True, [[Ratio(1, 1), Ratio(1, 1)]], None]
>>> from producttables.tables import Table, bad_places, one, power, times
>>> root = Table([[[1, 0], [0, 1]], [[0, 1], [2, 0]]])
>>> [root.size, times(root, [1, 1], [1, 1]) == [Ratio(3), Ratio(2)], one(root) == root.thing(0), power(root, [0, 1], 4) == [Ratio(4), Ratio(0)], bad_places([[[0, 1], [1, 0]], [[0, 0], [0, 0]]])]
[2, True, True, True, (0, 0, 0)]
'''


class Examples(unittest.TestCase):
    def test_examples(self):
        names = {}
        for at, text in enumerate([STAGE_1]):
            test = doctest.DocTestParser().get_doctest(text, names, f"stage {at + 1}", None, 0)
            said = []
            doctest.DocTestRunner(verbose=False).run(test, out=said.append, clear_globs=False)
            self.assertEqual("".join(said), "")
            names = test.globs


if __name__ == "__main__":
    unittest.main()

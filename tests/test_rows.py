import itertools
import unittest

from heaprows.errors import BadArms
from heaprows.rows import falls, faults, is_heap, ranks
from helpers import (ALL_ARMS, GREATEST, bad_arms, check_arms_errors, check_example, check_raises, check_row_errors,
                     heap_like, parent, sample_rows, up)

EXAMPLE = """
>>> from heaprows.rows import falls, faults, is_heap, ranks
>>> row = [5, 2, 7, 6, 1]
>>> [is_heap([1, 2, 2]), faults(row), falls(row), ranks(row), faults(row, arms=1)]
[True, [1, 4], [(0, 1), (0, 4), (1, 4)], (2, 1, 4, 3, 0), [1, 3, 4]]
"""


class RowsTest(unittest.TestCase):
    def test_example(self):
        check_example(self, EXAMPLE)

    def test_faults(self):
        for row in sample_rows():
            for arms in ALL_ARMS:
                wrong = [place for place in range(1, len(row)) if row[place] < row[parent(place, arms)]]
                self.assertEqual(faults(row, arms=arms), wrong)
                self.assertIs(is_heap(row, arms=arms), not wrong)
                self.assertEqual(faults(list(row), arms=arms), wrong)
                self.assertIs(is_heap(list(row), arms=arms), heap_like(row, arms))
            self.assertEqual(faults(row), faults(row, arms=2))
            self.assertIs(is_heap(row), heap_like(row, 2))

    def test_falls(self):
        for row in sample_rows():
            for arms in ALL_ARMS:
                wrong = sorted((above, place) for place in range(len(row)) for above in up(place, arms)[1:]
                               if row[place] < row[above])
                self.assertEqual(falls(row, arms=arms), wrong)
                self.assertTrue(all(type(pair) is tuple for pair in falls(list(row), arms=arms)))
            self.assertEqual(falls(list(row)), falls(row, arms=2))

    def test_a_heap_has_no_fallen_pair(self):
        for many in range(6):
            for row in itertools.product(range(3), repeat=many):
                for arms in ALL_ARMS:
                    self.assertIs(is_heap(row, arms=arms), falls(row, arms=arms) == [])
                    self.assertIs(is_heap(row, arms=arms), faults(row, arms=arms) == [])

    def test_ranks(self):
        for row in sample_rows():
            expected = tuple(sum(1 for other in range(len(row)) if row[other] < row[place]
                                 or row[other] == row[place] and other < place) for place in range(len(row)))
            for given in (row, list(row)):
                self.assertIs(type(ranks(given)), tuple)
                self.assertEqual(ranks(given), expected)
            self.assertEqual(sorted(expected), list(range(len(row))))

    def test_small_rows(self):
        for arms in ALL_ARMS:
            for row in ([], (), [4], (-4,)):
                self.assertEqual([is_heap(row, arms=arms), faults(row, arms=arms), falls(row, arms=arms)],
                                 [True, [], []])
        self.assertEqual([ranks([]), ranks(()), ranks([9]), ranks((9,))], [(), (), (0,), (0,)])

    def test_equal_keys(self):
        for arms in ALL_ARMS:
            self.assertEqual([is_heap([3] * 12, arms=arms), faults([3] * 12, arms=arms), falls([3] * 12, arms=arms)],
                             [True, [], []])
        self.assertEqual(ranks([3] * 12), tuple(range(12)))
        self.assertEqual(ranks((2, 1, 2, 1)), (2, 0, 3, 1))

    def test_limits(self):
        row = [GREATEST, -GREATEST] * 6
        self.assertEqual(faults(row, arms=1), [1, 3, 5, 7, 9, 11])
        self.assertIs(is_heap([-GREATEST] * 11 + [GREATEST]), True)
        self.assertEqual(len(falls(row)), len([1 for place in range(1, 12, 2) for above in up(place, 2)[1:]
                                               if above % 2 == 0]))
        self.assertEqual(ranks(row), (6, 0, 7, 1, 8, 2, 9, 3, 10, 4, 11, 5))

    def test_lists_are_new(self):
        row = [5, 2, 7, 6, 1]
        for work in (faults, falls):
            first = work(row)
            kept = list(first)
            first.append(None)
            self.assertEqual(work(row), kept)
            first.clear()
            self.assertEqual(work(row), kept)

    def test_arguments_are_left_alone(self):
        row = [5, 2, 7, 6, 1]
        found = [is_heap(row), faults(row), falls(row), ranks(row)]
        self.assertEqual(row, [5, 2, 7, 6, 1])
        row[:] = [1, 2, 3]
        self.assertEqual(found, [False, [1, 4], [(0, 1), (0, 4), (1, 4)], (2, 1, 4, 3, 0)])

    def test_bad_row(self):
        for work in (is_heap, faults, falls):
            check_row_errors(self, work)
            check_row_errors(self, work, arms=4)
        check_row_errors(self, ranks)

    def test_bad_arms(self):
        for work in (is_heap, faults, falls):
            check_arms_errors(self, work, [3, 1], worse=[([None],), (None,), ([0] * 13,)])
            for arms in bad_arms()[:3]:
                check_raises(self, BadArms, work, None, arms=arms)

    def test_parameters(self):
        for work in (is_heap, faults, falls):
            self.assertEqual(work(row=[2, 1], arms=1), work([2, 1], arms=1))
            self.assertRaises(TypeError, work, [2, 1], 1)
        self.assertEqual(ranks(row=[2, 1]), (1, 0))
        self.assertRaises(TypeError, lambda: ranks([2, 1], arms=2))


if __name__ == "__main__":
    unittest.main()

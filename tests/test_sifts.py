import unittest

from heaprows.errors import BadPlace, BadRow
from heaprows.heaps import Built
from heaprows.sifts import Sift, sift_down, sift_up
from helpers import (ALL_ARMS, GREATEST, Odd, check_arms_errors, check_example, check_raises, check_row_errors,
                     check_values, not_integers, parent, sample_rows, step_down, step_up)

EXAMPLE = """
>>> from heaprows.sifts import sift_down, sift_up
>>> one, two = sift_down([9, 2, 7, 6, 1], 0), sift_up([3, 4, 5, 1], 3)
>>> [one.row, one.way, one.looks, two.row, two.way, two.looks]
[(2, 1, 7, 6, 9), (0, 1, 4), 4, (1, 3, 5, 4), (3, 1, 0), 2]
"""


def told(sift):
    return sift.row, sift.way, sift.looks


class SiftsTest(unittest.TestCase):
    def test_example(self):
        check_example(self, EXAMPLE)

    def test_sift_up(self):
        for row in sample_rows():
            for arms in ALL_ARMS:
                for place in range(len(row)):
                    sift = sift_up(row, place, arms=arms)
                    self.assertIs(type(sift), Sift)
                    check_values(self, told(sift), step_up(row, place, arms))

    def test_sift_down(self):
        for row in sample_rows():
            for arms in ALL_ARMS:
                for place in range(len(row)):
                    sift = sift_down(row, place, arms=arms)
                    self.assertIs(type(sift), Sift)
                    check_values(self, told(sift), step_down(row, place, arms))

    def test_lists_and_tuples_and_two_arms(self):
        for row in sample_rows(7):
            for place in range(len(row)):
                self.assertEqual(sift_up(list(row), place), sift_up(row, place, arms=2))
                self.assertEqual(sift_down(list(row), place), sift_down(row, place, arms=2))

    def test_keys_stay_and_ways_are_linked(self):
        for row in sample_rows():
            for arms in ALL_ARMS:
                for place in range(len(row)):
                    up, down = sift_up(row, place, arms=arms), sift_down(row, place, arms=arms)
                    self.assertEqual([sorted(up.row), sorted(down.row)], [sorted(row)] * 2)
                    self.assertEqual([up.way[0], down.way[0]], [place, place])
                    self.assertEqual([up.row[up.way[-1]], down.row[down.way[-1]]], [row[place]] * 2)
                    for way in (up.way[::-1], down.way):
                        self.assertEqual(list(way[:-1]), [parent(at, arms) for at in way[1:]])

    def test_equal_keys_stay(self):
        for arms in ALL_ARMS:
            self.assertEqual(told(sift_up([4] * 12, 11, arms=arms)), ((4,) * 12, (11,), 1))
            self.assertEqual(told(sift_down([4] * 12, 0, arms=arms)), ((4,) * 12, (0,), arms))

    def test_first_of_equal_children(self):
        for arms in ALL_ARMS:
            self.assertEqual(told(sift_down([5] + [1] * arms, 0, arms=arms)), ((1, 5) + (1,) * (arms - 1), (0, 1), arms))
        self.assertEqual(told(sift_down([5, 2, 1, 1], 0, arms=3)), ((1, 2, 5, 1), (0, 2), 3))

    def test_looks_where_children_are_missing(self):
        self.assertEqual(told(sift_down([9, 1, 1, 5], 0)), ((1, 5, 1, 9), (0, 1, 3), 3))
        self.assertEqual(told(sift_down([9, 1, 2, 3, 4, 5], 0, arms=4)), ((1, 5, 2, 3, 4, 9), (0, 1, 5), 5))
        self.assertEqual(told(sift_down([2, 9, 1], 2)), ((2, 9, 1), (2,), 0))
        self.assertEqual(told(sift_up([2], 0)), ((2,), (0,), 0))

    def test_limits(self):
        self.assertEqual(told(sift_up([GREATEST, -GREATEST], 1)), ((-GREATEST, GREATEST), (1, 0), 1))
        self.assertEqual(told(sift_down(list(range(12, 0, -1)), 0, arms=1)),
                         (tuple(range(11, 0, -1)) + (12,), tuple(range(12)), 11))
        self.assertEqual(sift_up(list(range(12, 0, -1)), 11, arms=1).looks, 11)

    def test_sift_is_as_it_is_made(self):
        row, way = [1, 2], [1]
        sift = Sift(row, way, 3)
        row.append(5)
        way.append(0)
        check_values(self, told(sift), ((1, 2), (1,), 3))
        check_values(self, told(Sift(row=(1,), way=[0], looks=0)), ((1,), (0,), 0))
        check_values(self, told(Sift((), (), 0)), ((), (), 0))

    def test_equality(self):
        sift = Sift((1, 2), (1, 0), 1)
        self.assertIs(sift == Sift([1, 2], [1, 0], 1), True)
        self.assertIs(sift != Sift([1, 2], [1, 0], 1), False)
        for other in (Sift((1, 3), (1, 0), 1), Sift((1, 2), (1,), 1), Sift((1, 2), (1, 0), 2), Sift((), (), 0)):
            self.assertIs(sift == other, False)
            self.assertIs(sift != other, True)
        for thing in not_integers() + [1, ((1, 2), (1, 0), 1), Built((1, 2), (), 0, 1), Odd()]:
            self.assertIs(sift == thing, False)
            self.assertIs(sift != thing, True)

    def test_arguments_are_left_alone(self):
        for work in (sift_up, sift_down):
            row = [5, 3, 4, 1, 0]
            sift = work(row, 1)
            before = told(sift)
            self.assertEqual(row, [5, 3, 4, 1, 0])
            row[:] = [7]
            self.assertEqual(told(sift), before)
            self.assertIsNot(work((5, 3), 1), work((5, 3), 1))

    def test_bad_row(self):
        for work in (sift_up, sift_down):
            check_row_errors(self, work, 0)
            check_row_errors(self, work, -1)
            check_row_errors(self, work, None, arms=3)

    def test_bad_place(self):
        for work in (sift_up, sift_down):
            for row in ([], (), [3], (1, 2, 3), [0] * 12):
                for place in not_integers() + [-1, len(row), 12, 13, 10 ** 30, -10 ** 30]:
                    check_raises(self, BadPlace, work, row, place)
            check_raises(self, BadRow, work, [None], 5)

    def test_bad_arms(self):
        for work in (sift_up, sift_down):
            check_arms_errors(self, work, [3, 1], 1, worse=[(None, 0), ([1, None], 7), ([3, 1], None)])

    def test_parameters(self):
        for work in (sift_up, sift_down):
            self.assertEqual(work(row=[2, 1], place=1), work([2, 1], 1))
            self.assertRaises(TypeError, work, [2, 1], 1, 2)
        self.assertIn("__eq__", vars(Sift))


if __name__ == "__main__":
    unittest.main()

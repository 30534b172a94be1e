import itertools
import math
import time
import unittest

from heaprows.counting import all_heaps, heap_at, how_many, index_of
from heaprows.errors import BadArms, BadIndex, BadMany, BadRow, NotHeap, TooLarge
from helpers import (ALL_ARMS, GREATEST, all_orders_that_are_heaps, check_arms_errors, check_example,
                     check_heap_errors, check_raises, check_row_errors, check_values, not_integers, up)

EXAMPLE = """
>>> from heaprows.counting import all_heaps, heap_at, how_many, index_of
>>> [how_many(5), how_many(5, arms=3), all_heaps([2, 1, 2]), heap_at([1, 2, 3, 4], 1), index_of((1, 3, 2, 4))]
[8, 12, [(1, 2, 2)], (1, 2, 4, 3), 2]
"""
SECONDS = 3


def key_sets():
    """Keys of up to seven items, different ones and equal ones, in some order."""
    found = [keys for many in range(5) for keys in itertools.combinations_with_replacement(range(4), many)]
    found += [(4, 1, 3, 0, 2), (2, 2, 1, 1, 1), (7, 7, 7, 7, 7), (5, 0, 3, 3, 1, 4), (1, 0, 1, 0, 1, 0),
              (6, 2, 5, 1, 4, 0, 3), (0, 3, 1, 3, 2, 3, 0), (9, 9, 9, 9, 9, 9, 8), (1, 1, 2, 2, 3, 3, 3),
              (GREATEST, -GREATEST, 0, GREATEST)]
    return found


class HowManyTest(unittest.TestCase):
    def test_factorial_by_sizes(self):
        for many in range(13):
            for arms in ALL_ARMS:
                sizes = [sum(1 for other in range(many) if place in up(other, arms)) for place in range(many)]
                check_values(self, how_many(many, arms=arms), math.factorial(many) // math.prod(sizes))
            self.assertEqual(how_many(many), how_many(many, arms=2))

    def test_as_many_as_there_are(self):
        for many in range(9):
            for arms in ALL_ARMS:
                self.assertEqual(how_many(many, arms=arms), len(all_heaps(list(range(many)), arms=arms)))
        self.assertEqual([how_many(many) for many in range(13)],
                         [1, 1, 1, 2, 3, 8, 20, 80, 210, 896, 3360, 19200, 79200])

    def test_errors(self):
        for many in not_integers() + [-1, 13, 10 ** 30, -10 ** 30]:
            check_raises(self, BadMany, how_many, many)
            check_raises(self, BadMany, how_many, many, arms=1)
            check_raises(self, BadArms, how_many, many, arms=0)
        check_arms_errors(self, how_many, 12, worse=[(13,), (None,)])

    def test_parameters(self):
        self.assertEqual(how_many(many=4), 3)
        self.assertRaises(TypeError, how_many, 4, 2)


class AllHeapsTest(unittest.TestCase):
    def test_example(self):
        check_example(self, EXAMPLE)

    def test_all_orders(self):
        for keys in key_sets():
            for arms in ALL_ARMS:
                expected = all_orders_that_are_heaps(keys, arms)
                check_values(self, all_heaps(keys, arms=arms), expected)
                check_values(self, all_heaps(list(keys)[::-1], arms=arms), expected)
            self.assertEqual(all_heaps(keys), all_heaps(keys, arms=2))

    def test_index_and_heap(self):
        for keys in key_sets():
            for arms in ALL_ARMS:
                for index, heap in enumerate(all_heaps(keys, arms=arms)):
                    check_values(self, heap_at(keys, index, arms=arms), heap)
                    check_values(self, heap_at(list(keys), index, arms=arms), heap)
                    check_values(self, index_of(heap, arms=arms), index)
                    check_values(self, index_of(list(heap), arms=arms), index)
                    if arms == 2:
                        self.assertEqual((heap_at(keys, index), index_of(heap)), (heap, index))

    def test_no_keys(self):
        for arms in ALL_ARMS:
            for keys in ([], ()):
                check_values(self, all_heaps(keys, arms=arms), [()])
                check_values(self, heap_at(keys, 0, arms=arms), ())
                check_values(self, index_of(keys, arms=arms), 0)
                check_raises(self, BadIndex, heap_at, keys, 1, arms=arms)

    def test_lists_are_new(self):
        keys = [3, 1, 2, 4]
        first = all_heaps(keys)
        kept = list(first)
        first.reverse()
        first.pop()
        self.assertEqual(all_heaps(keys), kept)
        self.assertEqual([heap_at(keys, index) for index in range(3)], kept)
        self.assertEqual(index_of(kept[2]), 2)
        empty = all_heaps([])
        empty.clear()
        self.assertEqual(all_heaps([]), [()])

    def test_arguments_are_left_alone(self):
        keys = [3, 1, 2]
        found = [all_heaps(keys), heap_at(keys, 1)]
        self.assertEqual(keys, [3, 1, 2])
        keys.clear()
        self.assertEqual(found, [[(1, 2, 3), (1, 3, 2)], (1, 3, 2)])
        row = [1, 3, 2]
        self.assertEqual(index_of(row), 1)
        self.assertEqual(row, [1, 3, 2])

    def test_eight_keys_in_a_short_time(self):
        for arms in ALL_ARMS:
            keys = [5, 3, 7, 1, 0, 6, 2, 4]
            begun = time.perf_counter()
            heaps = all_heaps(keys, arms=arms)
            last = heap_at(keys, len(heaps) - 1, arms=arms)
            index = index_of(last, arms=arms)
            self.assertLess(time.perf_counter() - begun, SECONDS)
            self.assertEqual((len(heaps), index), (how_many(8, arms=arms), len(heaps) - 1))
            self.assertEqual(heaps, sorted(set(heaps)))
            self.assertEqual(all_heaps([2] * 8, arms=arms), [(2,) * 8])

    def test_nine_keys(self):
        for arms in ALL_ARMS:
            for keys in ([0] * 9, tuple(range(9)), [0] * 12):
                check_raises(self, TooLarge, all_heaps, keys, arms=arms)
                check_raises(self, TooLarge, heap_at, keys, 0, arms=arms)
                check_raises(self, TooLarge, heap_at, keys, None, arms=arms)
                check_raises(self, TooLarge, index_of, keys, arms=arms)
        check_raises(self, NotHeap, index_of, list(range(9))[::-1])
        check_raises(self, BadRow, all_heaps, [0] * 13)

    def test_bad_row(self):
        check_row_errors(self, all_heaps)
        check_row_errors(self, all_heaps, arms=4)
        check_row_errors(self, heap_at, 0)
        check_row_errors(self, heap_at, None)
        check_heap_errors(self, index_of)

    def test_bad_index(self):
        for keys in ([], [1], [3, 1, 2], [5] * 8, list(range(8))):
            for arms in ALL_ARMS:
                many = len(all_heaps(keys, arms=arms))
                for index in not_integers() + [-1, -many, many, many + 1, 10 ** 30, -10 ** 30]:
                    check_raises(self, BadIndex, heap_at, keys, index, arms=arms)

    def test_bad_arms(self):
        check_arms_errors(self, all_heaps, [1, 2], worse=[(None,), ([0] * 9,), ([None],)])
        check_arms_errors(self, heap_at, [1, 2], 0, worse=[(None, 0), ([0] * 9, 0), ([1], 1), ([1], None)])
        check_arms_errors(self, index_of, [1, 2], worse=[(None,), ([2, 1],), ([0] * 9,)])

    def test_parameters(self):
        self.assertEqual(all_heaps(keys=[2, 1]), [(1, 2)])
        self.assertEqual(heap_at(keys=[2, 1], index=0), (1, 2))
        self.assertEqual(index_of(row=[1, 2]), 0)
        for work, args in ((all_heaps, ([1],)), (heap_at, ([1], 0)), (index_of, ([1],))):
            self.assertRaises(TypeError, work, *args, 2)


if __name__ == "__main__":
    unittest.main()

import collections
import itertools
import time
import unittest

from heaprows.counting import all_heaps, how_many
from heaprows.dealing import how_many_of
from heaprows.errors import BadArms, BadRow, TooLarge
from helpers import (ALL_ARMS, GREATEST, all_orders_that_are_heaps, check_arms_errors, check_example, check_raises,
                     check_row_errors, check_values, heap_like)

EXAMPLE = """
>>> from heaprows.dealing import how_many_of
>>> [how_many_of([0, 0, 1, 1]), how_many_of((1, 1, 1)), how_many_of([4, 0, 3, 1, 2]), how_many_of([4, 0, 3, 1, 2], \
arms=1)]
[2, 1, 8, 1]
"""
SECONDS = 3


class DealingTest(unittest.TestCase):
    def test_example(self):
        check_example(self, EXAMPLE)

    def test_all_rows(self):
        for span, many in ((1, 10), (2, 10), (3, 9), (4, 6), (5, 5)):
            rows = list(itertools.product(range(span), repeat=many))
            for arms in ALL_ARMS:
                counts = collections.Counter(tuple(sorted(row)) for row in rows if heap_like(row, arms))
                for keys in itertools.combinations_with_replacement(range(span), many):
                    check_values(self, how_many_of(keys, arms=arms), counts[keys])

    def test_all_orders(self):
        for keys in ((4, 1, 3, 0, 2), (6, 2, 5, 1, 4, 0, 3), (0, 3, 1, 3, 2, 3, 0), (GREATEST, 0, -GREATEST, 0)):
            for arms in ALL_ARMS:
                expected = len(all_orders_that_are_heaps(keys, arms))
                check_values(self, how_many_of(keys, arms=arms), expected)
                check_values(self, how_many_of(list(keys)[::-1], arms=arms), expected)
            self.assertEqual(how_many_of(keys), how_many_of(keys, arms=2))

    def test_as_many_as_all_heaps(self):
        for keys in ([3, 1, 2, 2, 3, 1, 0, 0], [5, 5, 4, 4, 4, 3, 2, 1], [0, 1, 1, 1, 1, 1, 1, 2]):
            for arms in ALL_ARMS:
                self.assertEqual(how_many_of(keys, arms=arms), len(all_heaps(keys, arms=arms)))

    def test_different_keys(self):
        for many in range(11):
            for arms in ALL_ARMS:
                keys = [(7 * key) % 11 for key in range(many)]
                self.assertEqual(how_many_of(keys, arms=arms), how_many(many, arms=arms))

    def test_equal_keys(self):
        for many in range(11):
            for arms in ALL_ARMS:
                check_values(self, how_many_of([6] * many, arms=arms), 1)
        self.assertEqual(how_many_of([1] * 9 + [0]), 1)
        self.assertEqual([how_many_of([0] * 9 + [1], arms=arms) for arms in ALL_ARMS], [1, 5, 7, 7])

    def test_ten_keys_in_a_short_time(self):
        for arms in ALL_ARMS:
            begun = time.perf_counter()
            self.assertEqual(how_many_of([3, 9, 1, 7, 5, 0, 8, 2, 6, 4], arms=arms), how_many(10, arms=arms))
            self.assertLess(time.perf_counter() - begun, SECONDS)

    def test_eleven_keys(self):
        for arms in ALL_ARMS:
            for keys in ([0] * 11, tuple(range(11)), [0] * 12):
                check_raises(self, TooLarge, how_many_of, keys, arms=arms)
        check_raises(self, BadRow, how_many_of, [0] * 13)
        check_raises(self, BadRow, how_many_of, [0] * 11 + [None])

    def test_errors(self):
        check_row_errors(self, how_many_of)
        check_row_errors(self, how_many_of, arms=3)
        check_arms_errors(self, how_many_of, [1, 2], worse=[(None,), ([0] * 11,), ([None],)])
        check_raises(self, BadArms, how_many_of, [0] * 13, arms=False)

    def test_arguments_are_left_alone(self):
        keys = [3, 1, 2]
        self.assertEqual(how_many_of(keys), 2)
        self.assertEqual(keys, [3, 1, 2])

    def test_parameters(self):
        self.assertEqual(how_many_of(keys=[2, 1, 3]), 2)
        self.assertRaises(TypeError, how_many_of, [1, 2], 2)


if __name__ == "__main__":
    unittest.main()

import itertools
import random
import unittest

from heaprows.errors import BadArms, BadRow, Empty, NotHeap, TooLarge
from heaprows.heaps import take, take_by_hole
from heaprows.ties import Apart, Together, are_together, compare_ways, names_behind
from helpers import (ALL_ARMS, GREATEST, all_orders_that_are_heaps, bad_arms, bad_row_values, check_arms_errors,
                     check_equality, check_error_order, check_example, check_heap_errors, check_raises,
                     check_row_errors, check_time, check_values, children, first_least, full_heaps, heap_like, parent,
                     sample_heaps)

EXAMPLE = """
>>> from heaprows.ties import Apart, are_together, names_behind
>>> [names_behind((0, 1, 1)), are_together([0, 0, 1]), are_together([0, 1, 1]), Apart((0, 1, 1)).shows([1, 0, 1])]
[((2, 1), (1, 2)), True, False, True]
"""


def names_by_root(heap, arms):
    """The names after taking out, with pairs of a key and a name that are moved step by step."""
    if len(heap) == 1:
        return ()
    row = [(heap[-1], len(heap) - 1)] + [(heap[place], place) for place in range(1, len(heap) - 1)]
    at = 0
    while children(at, len(row), arms):
        child = first_least([key for key, _ in row], children(at, len(row), arms))
        if row[at][0] <= row[child][0]:
            break
        row[at], row[child] = row[child], row[at]
        at = child
    return tuple(name for _, name in row)


def names_by_hole(heap, arms):
    """The names after taking out by the hole, worked out in the same way."""
    if len(heap) == 1:
        return ()
    row = [(heap[place], place) for place in range(len(heap) - 1)]
    row[0] = None
    hole = 0
    while children(hole, len(row), arms):
        below = children(hole, len(row), arms)
        child = below[[row[at][0] for at in below].index(min(row[at][0] for at in below))]
        row[hole], row[child] = row[child], None
        hole = child
    row[hole] = (heap[-1], len(heap) - 1)
    while hole and row[hole][0] < row[parent(hole, arms)][0]:
        above = parent(hole, arms)
        row[hole], row[above] = row[above], row[hole]
        hole = above
    return tuple(name for _, name in row)


def heap_agrees(heap, arms):
    return not heap or names_by_root(heap, arms) == names_by_hole(heap, arms)


def drawn_keys(most, times=12):
    draw = random.Random(11)
    found = [[], [3], [3, 3], [0, 1, 1], [0, 0, 1], [5] * most, list(range(most)), [0] * (most - 1) + [1],
             [0] + [1] * (most - 1)]
    found += [[draw.randint(0, span) for _ in range(many)] for many in range(2, most + 1) for span in (1, 2, 3, 9)
              for _ in range(times)]
    return found


class NamesTest(unittest.TestCase):
    def test_example(self):
        check_example(self, EXAMPLE)

    def test_step_by_step(self):
        for arms in ALL_ARMS:
            for heap in sample_heaps(arms):
                if heap:
                    expected = (names_by_root(heap, arms), names_by_hole(heap, arms))
                    for given in (heap, list(heap)):
                        check_values(self, names_behind(given, arms=arms), expected)
            if arms == 2:
                self.assertEqual(names_behind((0, 1, 1)), names_behind((0, 1, 1), arms=2))

    def test_drawn_heaps(self):
        kinds = set()
        for arms in ALL_ARMS:
            for keys in drawn_keys(12):
                heap = tuple(sorted(keys))
                if heap:
                    expected = (names_by_root(heap, arms), names_by_hole(heap, arms))
                    check_values(self, names_behind(heap, arms=arms), expected)
                    kinds.add((arms, len(heap), expected[0] == expected[1]))
        self.assertLessEqual({(arms, 12, same) for arms in ALL_ARMS for same in (True, False)}, kinds)

    def test_names_lead_to_the_keys(self):
        for arms in ALL_ARMS:
            for heap in sample_heaps(arms):
                if heap:
                    for names, work in zip(names_behind(heap, arms=arms), (take, take_by_hole)):
                        self.assertEqual(tuple(heap[name] for name in names), work(heap, arms=arms)[1].row)
                        self.assertEqual(sorted(names), list(range(1, len(heap))))

    def test_different_keys_stay_together(self):
        for arms in ALL_ARMS:
            for many in range(1, 8):
                for heap in full_heaps(many, arms):
                    by_root, by_hole = names_behind(heap, arms=arms)
                    self.assertEqual(by_root, by_hole)

    def test_few_keys(self):
        for arms in ALL_ARMS:
            check_values(self, names_behind([4], arms=arms), ((), ()))
            check_values(self, names_behind([4, 4], arms=arms), ((1,), (1,)))
            check_values(self, names_behind([-GREATEST, GREATEST], arms=arms), ((1,), (1,)))
        check_values(self, names_behind([4, 4, 4], arms=1), ((2, 1), (1, 2)))

    def test_errors(self):
        check_heap_errors(self, names_behind)
        wrongs = [(BadArms, "arms", bad_arms()), (BadRow, "row", bad_row_values()),
                  (NotHeap, "row", [[2, 1], [0, 1, 2, 0, 0], list(range(12))[::-1]]), (Empty, "row", [[], ()])]
        check_error_order(self, names_behind, {"row": [0, 0, 1]}, wrongs)
        self.assertRaises(TypeError, names_behind, [1], 2)


class CompareTest(unittest.TestCase):
    def check_keys(self, keys, arms):
        heaps = all_orders_that_are_heaps(keys, arms)
        apart = [heap for heap in heaps if not heap_agrees(heap, arms)]
        for given in (list(keys), tuple(keys)[::-1]):
            found = compare_ways(given, arms=arms)
            check_values(self, are_together(given, arms=arms), not apart)
            self.assertIs(found.shows(given, arms=arms), True)
            self.assertIs(found.shows(tuple(sorted(keys)), arms=arms), True)
            if apart:
                self.assertIs(type(found), Apart)
                self.assertIs(type(found.row), tuple)
                self.assertIn(found.row, apart)
            else:
                self.assertIs(type(found), Together)
                self.assertEqual(sorted(set(found.heaps)), heaps)
                self.assertTrue(all(type(row) is tuple for row in found.heaps))
        self.check_aparts(keys, arms)
        self.check_togethers(keys, heaps, not apart, arms)

    def check_aparts(self, keys, arms):
        rows = set(itertools.permutations(keys)) | {tuple(keys)[1:], tuple(keys) + (9,), (), (0, 1, 1), (0, 2, 2)}
        for row in sorted(rows)[:200]:
            expected = sorted(row) == sorted(keys) and heap_like(row, arms) and not heap_agrees(row, arms)
            self.assertIs(Apart(row).shows(keys, arms=arms), expected)

    def check_togethers(self, keys, heaps, expected, arms):
        for good in (heaps, heaps[::-1], heaps + heaps, heaps[:1] + heaps, [list(row) for row in heaps]):
            self.assertIs(Together(good).shows(keys, arms=arms), expected)
        wrong = [[], heaps[1:], heaps[:-1], heaps + [()], heaps + [tuple(keys) + (5,)], heaps + [tuple(keys)[1:]],
                 heaps + [tuple(sorted(keys, reverse=True))], heaps + [tuple(key + 1 for key in keys)]]
        for rows in wrong:
            self.assertIs(Together(rows).shows(keys, arms=arms), expected and set(rows) == set(heaps))

    def test_drawn_keys(self):
        kinds = set()
        for keys in drawn_keys(6, 4):
            for arms in ALL_ARMS:
                self.check_keys(keys, arms)
                kinds.add((arms, are_together(keys, arms=arms)))
        self.assertEqual(len(kinds), 8)

    def test_all_keys_of_few_kinds(self):
        for many in range(5):
            for keys in itertools.combinations_with_replacement(range(3), many):
                for arms in ALL_ARMS:
                    self.check_keys(keys, arms)

    def test_no_keys(self):
        for arms in ALL_ARMS:
            for keys in ([], ()):
                self.assertEqual(compare_ways(keys, arms=arms), Together([()]))
                self.assertIs(Together([()]).shows(keys, arms=arms), True)
                self.assertIs(Together([]).shows(keys, arms=arms), False)
                self.assertIs(Apart(()).shows(keys, arms=arms), False)
                check_values(self, are_together(keys, arms=arms), True)

    def test_two_arms_by_default(self):
        for keys in ([0, 1, 1], [0, 0, 1], [3, 1, 2, 1, 0]):
            self.assertEqual(compare_ways(keys), compare_ways(keys, arms=2))
            self.assertIs(are_together(keys), are_together(keys, arms=2))
            self.assertIs(compare_ways(keys).shows(keys), True)

    def test_limits(self):
        for arms in ALL_ARMS:
            for keys in (list(range(7)), [4] * 7, [0, 0, 1, 1, 2, 2, 3], [3, 1, 2, 1, 0, 2, 3]):
                found = check_time(self, compare_ways, keys, arms=arms)
                self.assertIs(check_time(self, found.shows, keys, arms=arms), True)
                self.assertIs(check_time(self, are_together, keys, arms=arms), type(found) is Together)
                heaps = all_orders_that_are_heaps(keys, arms)
                self.assertIs(type(found) is Together, all(heap_agrees(heap, arms) for heap in heaps))
            for many in range(8, 13):
                for work in (compare_ways, are_together, Together([]).shows, Apart(()).shows):
                    check_raises(self, TooLarge, work, [0] * many, arms=arms)
            check_time(self, names_behind, [0] * 12, arms=arms)

    def test_attributes_and_equality(self):
        row = [0, 1]
        rows = [row, (0, 2)]
        together, apart = Together(rows), Apart(row)
        row.append(5)
        rows.clear()
        check_values(self, vars(together), {"heaps": [(0, 1), (0, 2)]})
        check_values(self, vars(apart), {"row": (0, 1)})
        check_values(self, [Together(heaps=[]).heaps, Apart(row=[]).row], [[], ()])
        check_equality(self, Together, ([(0, 1), (0,)],), [([(0, 1)],), ([(0,), (0, 1)],), ([],)], Apart((0, 1)))
        check_equality(self, Apart, ((0, 1),), [((0, 2),), ((0,),)], Together([(0, 1)]))

    def test_current_attributes(self):
        keys = [0, 0, 1]
        together = compare_ways(keys)
        kept = list(together.heaps)
        together.heaps.append((0, 0, 2))
        self.assertIs(together.shows(keys), False)
        self.assertEqual(compare_ways(keys).heaps, kept)
        together.heaps.pop()
        self.assertIs(together.shows(keys), True)
        together.heaps.clear()
        self.assertIs(together.shows(keys), False)
        apart = Apart((0, 1, 1))
        self.assertIs(apart.shows([1, 1, 0]), True)
        apart.row = (0, 0, 1)
        self.assertEqual([apart.shows([1, 1, 0]), apart.shows(keys)], [False, False])

    def test_errors(self):
        works = [compare_ways, are_together, Together([(0,)]).shows, Apart((0,)).shows]
        for work in works:
            check_row_errors(self, work)
            check_row_errors(self, work, arms=3)
            check_arms_errors(self, work, [1, 0], worse=[(None,), ([0] * 8,), ([None],), ([0] * 13,)])
            wrongs = [(BadArms, "arms", bad_arms()), (BadRow, "keys", bad_row_values()),
                      (TooLarge, "keys", [[0] * 8, tuple(range(12))])]
            check_error_order(self, work, {"keys": [2, 1]}, wrongs)
            self.assertRaises(TypeError, work, [1], 2)

    def test_arguments_are_left_alone(self):
        for work in (compare_ways, are_together, Together([]).shows, Apart((0, 1, 1)).shows):
            for keys in ([1, 0, 1], [1, 0, 0]):
                given = list(keys)
                found = work(given)
                self.assertEqual(given, keys)
                given.clear()
                self.assertEqual(found, work(keys))
        row = [0, 1, 1]
        names_behind(row)
        self.assertEqual(row, [0, 1, 1])


if __name__ == "__main__":
    unittest.main()

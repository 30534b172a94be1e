import unittest

from heaprows.errors import BadArms, BadKey, BadRow, Empty, Full, NotHeap
from heaprows.heaps import Built, build, push, put_for, take, take_by_hole
from heaprows.sifts import Sift
from helpers import (ALL_ARMS, GREATEST, Odd, bad_keys, check_arms_errors, check_example, check_heap_errors,
                     check_raises, check_row_errors, check_values, children, first_least, heap_like, not_integers,
                     sample_heaps, sample_rows, step_down, step_up)

EXAMPLE = """
>>> from heaprows.heaps import build, push, take, take_by_hole
>>> row = (1, 3, 2, 7, 4, 5)
>>> (key, down), by_hole = take(row), take_by_hole(row)[1]
>>> up, made = push(row, 0), build([4, 3, 2, 1])
>>> found = [key, down.row, down.way, down.looks, by_hole.row, by_hole.way, by_hole.looks, up.row, up.way, up.looks]
>>> [found, made.row, made.stops, made.changes, made.looks]
[[1, (2, 3, 5, 7, 4), (0, 2), 2, (2, 3, 5, 7, 4), (2,), 2, (0, 3, 1, 7, 4, 5, 2), (6, 2, 0), 2], (1, 3, 2, 4), \
((1, 3), (0, 3)), 3, 4]
"""


def told(sift):
    return sift.row, sift.way, sift.looks


def told_built(made):
    return made.row, made.stops, made.changes, made.looks


def taken_by_hole(heap, arms):
    """The row, way and looks of taking out by the hole, worked out step by step."""
    row = [None] + list(heap[1:-1])
    hole, looks = 0, 0
    while children(hole, len(row), arms):
        below = children(hole, len(row), arms)
        looks += len(below) - 1
        child = first_least(row, below)
        row[hole], row[child] = row[child], None
        hole = child
    row[hole] = heap[-1]
    after, way, more = step_up(row, hole, arms)
    return after, way, looks + more


def built(row, arms):
    """What building a row gives, worked out step by step."""
    stops, changes, looks = [], 0, 0
    for place in range(len(row) - 1, -1, -1):
        if children(place, len(row), arms):
            row, way, more = step_down(row, place, arms)
            stops.append((place, way[-1]))
            changes += len(way) - 1
            looks += more
    return tuple(row), tuple(stops), changes, looks


def some_keys(heap):
    around = {key + more for key in heap for more in (-1, 0, 1)}
    return sorted({key for key in around if abs(key) <= GREATEST} | {0, -GREATEST, GREATEST})


class HeapsTest(unittest.TestCase):
    def test_example(self):
        check_example(self, EXAMPLE)

    def test_push(self):
        for arms in ALL_ARMS:
            for heap in sample_heaps(arms, 11):
                for key in some_keys(heap)[:9]:
                    sift = push(heap, key, arms=arms)
                    self.assertIs(type(sift), Sift)
                    check_values(self, told(sift), step_up(heap + (key,), len(heap), arms))
                    self.assertTrue(heap_like(sift.row, arms))
                    self.assertEqual(sorted(sift.row), sorted(heap + (key,)))
                    self.assertEqual(sift.row[0], min(heap + (key,)))

    def test_take(self):
        for arms in ALL_ARMS:
            for heap in sample_heaps(arms):
                if len(heap) > 1:
                    found = take(heap, arms=arms)
                    self.assertIs(type(found), tuple)
                    key, sift = found
                    self.assertIs(type(sift), Sift)
                    self.assertEqual(key, min(heap))
                    check_values(self, told(sift), step_down(heap[-1:] + heap[1:-1], 0, arms))

    def test_take_by_hole(self):
        for arms in ALL_ARMS:
            for heap in sample_heaps(arms):
                if len(heap) > 1:
                    found = take_by_hole(heap, arms=arms)
                    self.assertIs(type(found), tuple)
                    key, sift = found
                    self.assertIs(type(sift), Sift)
                    self.assertEqual(key, min(heap))
                    check_values(self, told(sift), taken_by_hole(heap, arms))

    def test_both_ways_leave_the_same_heap(self):
        for arms in ALL_ARMS:
            for heap in sample_heaps(arms):
                if heap:
                    one, other = take(heap, arms=arms), take_by_hole(heap, arms=arms)
                    self.assertEqual((one[0], one[1].row), (other[0], other[1].row))
                    self.assertTrue(heap_like(one[1].row, arms))
                    self.assertEqual(sorted(one[1].row), sorted(heap)[1:])

    def test_looks_of_the_hole(self):
        # Three moves past 2, 2 and 2 children, then one parent that is less.
        self.assertEqual(told(take_by_hole((0, 1, 9, 2, 9, 9, 9, 3, 8, 9, 9, 9))[1]),
                         ((1, 2, 9, 3, 9, 9, 9, 9, 8, 9, 9), (7,), 4))
        # One move past 4 children, one past 2 children, then the key goes up past one parent, and is held by none.
        self.assertEqual(told(take_by_hole((0, 1, 5, 5, 5, 7, 8, 4), arms=4)[1]),
                         ((1, 4, 5, 5, 5, 7, 8), (5, 1), 3 + 1 + 2))
        # With one arm no move needs a look.
        self.assertEqual(told(take_by_hole((0, 1, 2, 3), arms=1)[1]), ((1, 2, 3), (2,), 1))
        self.assertEqual(told(take_by_hole((0, 4), arms=3)[1]), ((4,), (0,), 0))
        self.assertEqual(told(take((0, 4), arms=3)[1]), ((4,), (0,), 0))

    def test_take_the_only_key(self):
        for arms in ALL_ARMS:
            for work in (take, take_by_hole):
                for row in ([5], (5,)):
                    self.assertEqual(work(row, arms=arms), (5, Sift((), (), 0)))
                    check_values(self, told(work(row, arms=arms)[1]), ((), (), 0))

    def test_put_for(self):
        for arms in ALL_ARMS:
            for heap in sample_heaps(arms):
                if heap:
                    for key in some_keys(heap)[-9:]:
                        found = put_for(heap, key, arms=arms)
                        self.assertIs(type(found), tuple)
                        out, sift = found
                        self.assertIs(type(sift), Sift)
                        self.assertEqual(out, min(heap))
                        check_values(self, told(sift), step_down((key,) + heap[1:], 0, arms))
                        self.assertTrue(heap_like(sift.row, arms))
                        self.assertEqual(sorted(sift.row), sorted(heap[1:] + (key,)))

    def test_build(self):
        for arms in ALL_ARMS:
            for row in sample_rows():
                made = build(row, arms=arms)
                self.assertIs(type(made), Built)
                check_values(self, told_built(made), built(row, arms))
                self.assertTrue(heap_like(made.row, arms))
                self.assertEqual(sorted(made.row), sorted(row))

    def test_building_a_heap_changes_nothing(self):
        for arms in ALL_ARMS:
            for heap in sample_heaps(arms):
                made = build(heap, arms=arms)
                self.assertEqual((made.row, made.changes), (heap, 0))
                self.assertTrue(all(place == stop for place, stop in made.stops))
                self.assertEqual(made.looks, max(0, len(heap) - 1))

    def test_build_few_keys(self):
        for arms in ALL_ARMS:
            for row in ([], (), [4], (4,)):
                check_values(self, told_built(build(row, arms=arms)), (tuple(row), (), 0, 0))
        check_values(self, told_built(build([4, 3])), ((3, 4), ((0, 1),), 1, 1))

    def test_take_all(self):
        for arms in ALL_ARMS:
            for row in sample_rows():
                pushed = ()
                for key in row:
                    pushed = push(pushed, key, arms=arms).row
                for heap in (pushed, build(row, arms=arms).row):
                    for work in (take, take_by_hole):
                        taken, left = [], heap
                        while left:
                            key, sift = work(left, arms=arms)
                            taken.append(key)
                            left = sift.row
                        self.assertEqual(taken, sorted(row))

    def test_lists_and_tuples_and_two_arms(self):
        for heap in sample_heaps(2, 5):
            self.assertEqual(push(list(heap), 1), push(heap, 1, arms=2))
            self.assertEqual(build(list(heap)), build(heap, arms=2))
            if heap:
                self.assertEqual(take(list(heap)), take(heap, arms=2))
                self.assertEqual(take_by_hole(list(heap)), take_by_hole(heap, arms=2))
                self.assertEqual(put_for(list(heap), 1), put_for(heap, 1, arms=2))

    def test_arguments_are_left_alone(self):
        calls = [lambda row: push(row, 0), lambda row: take(row)[1], lambda row: take_by_hole(row)[1],
                 lambda row: put_for(row, 9)[1]]
        for call in calls:
            row = [1, 3, 2, 7, 4]
            sift = call(row)
            before = told(sift)
            self.assertEqual(row, [1, 3, 2, 7, 4])
            row.clear()
            self.assertEqual(told(sift), before)
        row = [4, 3, 2, 1]
        made = build(row)
        self.assertEqual(row, [4, 3, 2, 1])
        row[0] = 0
        self.assertEqual(told_built(made), ((1, 3, 2, 4), ((1, 3), (0, 3)), 3, 4))


class BuiltTest(unittest.TestCase):
    def test_built_is_as_it_is_made(self):
        row, stops = [1, 2], [(0, 1)]
        made = Built(row, stops, 3, 4)
        row.append(5)
        stops.append((9, 9))
        check_values(self, told_built(made), ((1, 2), ((0, 1),), 3, 4))
        check_values(self, told_built(Built(row=(), stops=[], changes=0, looks=0)), ((), (), 0, 0))

    def test_equality(self):
        made = Built((1, 2), ((0, 1),), 1, 2)
        self.assertIs(made == Built([1, 2], [(0, 1)], 1, 2), True)
        self.assertIs(made != Built([1, 2], [(0, 1)], 1, 2), False)
        for other in (Built((1, 3), ((0, 1),), 1, 2), Built((1, 2), ((0, 0),), 1, 2), Built((1, 2), ((0, 1),), 0, 2),
                      Built((1, 2), ((0, 1),), 1, 1)):
            self.assertIs(made == other, False)
            self.assertIs(made != other, True)
        for thing in not_integers() + [((1, 2), ((0, 1),), 1, 2), Sift((1, 2), ((0, 1),), 2), Odd()]:
            self.assertIs(made == thing, False)
            self.assertIs(made != thing, True)
        self.assertIn("__eq__", vars(Built))


class HeapErrorsTest(unittest.TestCase):
    def test_bad_row_and_not_heap(self):
        check_heap_errors(self, push, 1)
        check_heap_errors(self, push, None)
        check_heap_errors(self, take)
        check_heap_errors(self, take_by_hole)
        check_heap_errors(self, put_for, 1)
        check_heap_errors(self, put_for, None)
        check_row_errors(self, build)
        check_row_errors(self, build, arms=4)

    def test_bad_key(self):
        for key in bad_keys():
            for row in ([1, 2], (), [0] * 12):
                check_raises(self, BadKey, push, row, key)
                check_raises(self, BadKey, put_for, row, key)
            for work in (push, put_for):
                check_raises(self, NotHeap, work, [2, 1], key)
                check_raises(self, BadRow, work, [2, None], key)
        for key in (-GREATEST, GREATEST):
            self.assertEqual(sorted(push([0], key).row), sorted([0, key]))
            self.assertEqual(put_for([0], key), (0, Sift((key,), (0,), 0)))

    def test_full(self):
        for arms in ALL_ARMS:
            full = list(range(12))
            for key in (-1, 5, 20):
                check_raises(self, Full, push, full, key, arms=arms)
                self.assertEqual(len(push(full[:11], key, arms=arms).row), 12)
                self.assertEqual(len(put_for(full, key, arms=arms)[1].row), 12)
            self.assertEqual(take(full, arms=arms)[0], 0)
            self.assertEqual(take_by_hole(full, arms=arms)[0], 0)
        check_raises(self, NotHeap, push, [1] * 11 + [0], 3)
        check_raises(self, BadRow, push, [1] * 13, 3)

    def test_empty(self):
        for arms in ALL_ARMS:
            for row in ([], ()):
                check_raises(self, Empty, take, row, arms=arms)
                check_raises(self, Empty, take_by_hole, row, arms=arms)
                check_raises(self, Empty, put_for, row, 3, arms=arms)
                self.assertEqual(push(row, 3, arms=arms), Sift((3,), (0,), 0))

    def test_bad_arms(self):
        worse = [(None,), ([2, 1],), ([],), ([None],)]
        check_arms_errors(self, take, [1, 2], worse=worse)
        check_arms_errors(self, take_by_hole, [1, 2], worse=worse)
        check_arms_errors(self, build, [1, 2], worse=[(None,), ([None],)])
        worse = [(None, 1), ([2, 1], 1), ([1, 2], None), ([0] * 12, 1), ([], 1), ([], None)]
        check_arms_errors(self, push, [1, 2], 3, worse=worse)
        check_arms_errors(self, put_for, [1, 2], 3, worse=worse)
        check_raises(self, BadArms, build, [0] * 13, arms=True)

    def test_heaps_depend_on_arms(self):
        self.assertEqual(take((1, 5, 2, 6, 3), arms=4)[0], 1)
        self.assertEqual(check_raises(self, NotHeap, take, (1, 5, 2, 6, 3)).place, 4)
        self.assertEqual(check_raises(self, NotHeap, take, (1, 5, 2, 6, 3), arms=1).place, 2)

    def test_parameters(self):
        self.assertEqual(push(row=[2], key=1), push([2], 1))
        self.assertEqual(put_for(row=[2], key=1), put_for([2], 1))
        for work in (take, take_by_hole, build):
            self.assertEqual(work(row=[1, 2]), work([1, 2]))
            self.assertRaises(TypeError, work, [1, 2], 2)
        self.assertRaises(TypeError, push, [1, 2], 2, 2)
        self.assertRaises(TypeError, put_for, [1, 2], 2, 2)


if __name__ == "__main__":
    unittest.main()

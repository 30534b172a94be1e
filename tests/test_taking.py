import collections
import itertools
import unittest

from heaprows.errors import BadArms, BadKey, BadMany, BadPlace, BadRow, Empty, Full, NotHeap, SameKeys, TooLarge
from heaprows.taking import Before, Over, looks_of, looks_over, places_behind, undo_take
from helpers import (ALL_ARMS, GREATEST, bad_arms, bad_integers, bad_keys, bad_row_values, check_arms_errors,
                     check_equality, check_error_order, check_example, check_heap_errors, check_raises,
                     check_same_keys, check_time, check_values, children, first_least, full_heaps, heap_like,
                     not_integers, parent, sample_heaps, step_down, step_up)

EXAMPLE = """
>>> from heaprows.taking import Over, looks_of, looks_over, places_behind, undo_take
>>> row = (2, 3, 5, 7, 4)
>>> [undo_take(row, 1, 2).row, undo_take(row, 1, 1) == Over(2, 5), places_behind(row), looks_of((1, 3, 2, 7, 4, 5)), \
looks_over(3)]
[(1, 3, 2, 7, 4, 5), True, [2, 3], (2, 2), (2, 2)]
"""
ODD_PLACES = (-1, -2, 12, 13, 10 ** 30, -10 ** 30)


def taken(heap, arms):
    """The row, the way of the last key and the looks of taking out of a heap with two or more keys."""
    return step_down(heap[-1:] + heap[1:-1], 0, arms)


def looks_by_hole(heap, arms):
    """The looks of taking out by the hole, worked out step by step."""
    if len(heap) < 2:
        return 0
    row, hole, looks = list(heap[:-1]), 0, 0
    while children(hole, len(row), arms):
        below = children(hole, len(row), arms)
        looks += len(below) - 1
        child = first_least(row, below)
        row[hole] = row[child]
        hole = child
    row[hole] = heap[-1]
    return looks + step_up(row, hole, arms)[2]


def looks_by_root(heap, arms):
    return taken(heap, arms)[2] if len(heap) > 1 else 0


def takings_that_lead_to(many, arms):
    """A dict from pairs of a full heap and a place to all rows, with -1 as the least key, that lead there."""
    found = collections.defaultdict(list)
    for heap in full_heaps(many + 1, arms):
        before = tuple(key - 1 for key in heap)
        row, way, _ = taken(before, arms)
        found[row, way[-1]].append(before)
    return found


def lesser_keys(heap):
    return [least for least in (heap[0] - 1, heap[0] - 2, -GREATEST) if -GREATEST <= least < heap[0]]


def is_over(over, heap, at, arms):
    """Whether a place and a key are as they must be for an Over, worked out from the row before the taking."""
    place, key = over
    way = [at]
    while way[0]:
        way.insert(0, parent(way[0], arms))
    # The keys on the way were one place below; the last key was behind all others.
    before = list(heap) + [heap[at]]
    before[0] = None
    for upper, lower in zip(way, way[1:]):
        before[lower] = heap[upper]
    told = before[parent(len(heap), arms)]
    return told is not None and key == told and key > heap[at] and 0 <= place < len(heap) and heap[place] == key


class UndoTakeTest(unittest.TestCase):
    def test_example(self):
        check_example(self, EXAMPLE)

    def test_all_heaps(self):
        for arms in ALL_ARMS:
            for many in range(1, 7):
                could = takings_that_lead_to(many, arms)
                for heap in full_heaps(many, arms):
                    places = [place for place in range(many) if (heap, place) in could]
                    check_values(self, places_behind(heap, arms=arms), places)
                    for place in range(many):
                        self.check_undo(heap, place, arms, could.pop((heap, place), []))
                self.assertEqual(could, {})

    def check_undo(self, heap, place, arms, could):
        self.assertLessEqual(len(could), 1)
        for least in lesser_keys(heap):
            for given in (heap, list(heap)):
                found = undo_take(given, least, place, arms=arms)
                if could:
                    self.assertIs(type(found), Before)
                    check_values(self, found.row, (least,) + could[0][1:])
                else:
                    self.assertIs(type(found), Over)
                    self.assertTrue(is_over((found.place, found.key), heap, place, arms))
                self.assertIs(found.shows(given, least, place, arms=arms), True)

    def test_larger_heaps(self):
        kinds = set()
        for arms in ALL_ARMS:
            for heap in sample_heaps(arms, 11):
                if heap and len(set(heap)) == len(heap):
                    behind = places_behind(heap, arms=arms)
                    for place in range(len(heap)):
                        for least in lesser_keys(heap):
                            found = undo_take(heap, least, place, arms=arms)
                            self.assertIs(type(found) is Before, place in behind)
                            self.assertIs(found.shows(heap, least, place, arms=arms), True)
                            kinds.add((type(found), len(heap), arms))
                            if type(found) is Before:
                                row, way, _ = taken(found.row, arms)
                                self.assertTrue(heap_like(found.row, arms))
                                self.assertEqual((found.row[0], row, way[-1]), (least, heap, place))
                            else:
                                self.assertTrue(is_over((found.place, found.key), heap, place, arms))
        self.assertLessEqual({(kind, 11, arms) for kind in (Before, Over) for arms in ALL_ARMS}, kinds)

    def test_places_behind_whatever_the_key_is(self):
        for arms in ALL_ARMS:
            for many in range(1, 12):
                # No key is less than the one at the root of this heap.
                heap = tuple(key - GREATEST for key in range(many))
                wide = tuple(3 * key for key in range(many))
                check_values(self, places_behind(heap, arms=arms), places_behind(wide, arms=arms))
                self.assertEqual(places_behind(list(wide), arms=arms),
                                 [place for place in range(many) if type(undo_take(wide, -1, place, arms=arms)) is Before])
            for heap in ([], ()):
                check_values(self, places_behind(heap, arms=arms), [])
            check_values(self, places_behind((4,), arms=arms), [0])

    def test_two_arms_by_default(self):
        for heap in full_heaps(5, 2):
            self.assertEqual(places_behind(heap), places_behind(heap, arms=2))
            self.assertEqual(looks_of(heap), looks_of(heap, arms=2))
            for place in range(5):
                found = undo_take(heap, -1, place)
                self.assertEqual(found, undo_take(heap, -1, place, arms=2))
                self.assertIs(found.shows(heap, -1, place), True)
        self.assertEqual(looks_over(5), looks_over(5, arms=2))


class LooksTest(unittest.TestCase):
    def test_looks_of(self):
        for arms in ALL_ARMS:
            for heap in sample_heaps(arms):
                if heap:
                    expected = (looks_by_root(heap, arms), looks_by_hole(heap, arms))
                    check_values(self, looks_of(heap, arms=arms), expected)
                    check_values(self, looks_of(list(heap), arms=arms), expected)

    def test_looks_over(self):
        for arms in ALL_ARMS:
            for many in range(9):
                heaps = [heap for heap in full_heaps(many, arms) if heap]
                expected = (sum(looks_by_root(heap, arms) for heap in heaps),
                            sum(looks_by_hole(heap, arms) for heap in heaps))
                check_values(self, check_time(self, looks_over, many, arms=arms), expected)
            for many in range(9, 13):
                check_raises(self, TooLarge, looks_over, many, arms=arms)

    def test_few_keys(self):
        for arms in ALL_ARMS:
            check_values(self, [looks_over(0, arms=arms), looks_over(1, arms=arms), looks_over(2, arms=arms)],
                         [(0, 0)] * 3)
            check_values(self, looks_of([5], arms=arms), (0, 0))
            check_values(self, looks_of([5] * 2, arms=arms), (0, 0))


class ShowsTest(unittest.TestCase):
    def test_before(self):
        for arms in ALL_ARMS:
            for many in range(1, 4):
                rows = [row for length in range(many + 3) for row in itertools.product(range(-1, many), repeat=length)]
                for heap in full_heaps(many, arms):
                    for place in range(many):
                        for row in rows:
                            expected = heap_like(row, arms) and len(row) == many + 1 and row[0] == -1
                            if expected:
                                after, way, _ = taken(row, arms)
                                expected = (after, way[-1]) == (heap, place)
                            self.assertIs(Before(row).shows(heap, -1, place, arms=arms), expected)

    def test_before_with_another_key_or_place(self):
        row = (2, 3, 5, 7, 4)
        before = undo_take(row, 1, 2)
        self.assertIs(before.shows(row, 1, 2), True)
        self.assertIs(before.shows(row, 0, 2), False)
        self.assertEqual([place for place in range(5) if before.shows(row, 1, place)], [2])
        for wrong in (before.row[:-1], before.row + (9,), before.row[::-1], (), (1,) * 12, row,
                      (1, 5, 2, 7, 4, 3), (1, 3, 2, 4, 7, 5), (1, 3, 2, 7, 4, 6)):
            self.assertIs(Before(wrong).shows(row, 1, 2), False)
        # Taking out of this row would leave the heap, but it is no heap.
        self.assertIs(Before((1, 3, 5, 7, 4, 2)).shows(row, 1, 0), False)

    def test_over(self):
        for arms in ALL_ARMS:
            for many in range(1, 7):
                numbers = list(range(-many, many + 2)) + list(ODD_PLACES)
                for heap in full_heaps(many, arms)[::3]:
                    for at in range(many):
                        for place, key in itertools.product(numbers, repeat=2):
                            expected = is_over((place, key), heap, at, arms)
                            self.assertIs(Over(place, key).shows(heap, -1, at, arms=arms), expected)

    def test_over_of_stretched_keys(self):
        heap = (2, 3, 5, 7, 4)
        shown = [(place, key) for place in range(-6, 7) for key in range(-1, 9) if Over(place, key).shows(heap, 1, 1)]
        self.assertEqual(shown, [(2, 5)])
        for place in (2, 3):
            self.assertFalse([key for key in range(9) if Over(2, key).shows(heap, 1, place)])

    def test_current_attributes(self):
        heap = (2, 3, 5, 7, 4)
        over, before = Over(2, 5), undo_take(heap, 1, 2)
        self.assertEqual([over.shows(heap, 1, 1), before.shows(heap, 1, 2)], [True, True])
        over.key, before.row = 4, (1, 3, 2, 7, 4, 9)
        self.assertEqual([over.shows(heap, 1, 1), before.shows(heap, 1, 2)], [False, False])
        over.key, over.place = 5, 1
        self.assertIs(over.shows(heap, 1, 1), False)

    def test_attributes_and_equality(self):
        row = [0, 1]
        before = Before(row)
        row.clear()
        check_values(self, vars(before), {"row": (0, 1)})
        check_values(self, vars(Before(row=[])), {"row": ()})
        check_values(self, vars(Over(place=3, key=-4)), {"place": 3, "key": -4})
        check_equality(self, Before, ((0, 1),), [((0, 2),), ((0,),), ((),)], Over(0, 1))
        check_equality(self, Over, (3, 4), [(3, 5), (4, 4), (4, 3)], Before((3, 4)))


class TakingErrorsTest(unittest.TestCase):
    not_heaps = [[2, 1], [1, 1, 0], [0, 1, 2, 0, 0], [5] * 8 + [4], list(range(12))[::-1]]
    same = [[0, 0], [0, 1, 1], (3, 4, 4, 4), [7] * 9, (0,) * 12]
    works = [undo_take, Before((-1, 0)).shows, Over(0, 0).shows]

    def test_rows(self):
        for work in self.works:
            for rest in ((-GREATEST, 0), (None, 0), (5, None)):
                check_heap_errors(self, work, *rest)
                check_same_keys(self, work, *rest)
        check_heap_errors(self, places_behind)
        check_same_keys(self, places_behind)
        check_heap_errors(self, looks_of)

    def test_order_of_errors(self):
        rows = [(BadArms, "arms", bad_arms()), (BadRow, "row", bad_row_values()), (NotHeap, "row", self.not_heaps)]
        different = rows + [(SameKeys, "row", self.same)]
        full = (Full, "row", [list(range(12)), tuple(range(1, 13))])
        keys = bad_keys() + [0, 1, 5, GREATEST]
        for work in self.works:
            wrongs = [(Empty, "row", [[], ()]), full, (BadKey, "least", keys), (BadPlace, "place", bad_integers(0, 3))]
            check_error_order(self, work, {"row": [0, 1, 3, 2], "least": -1, "place": 3}, different + wrongs)
        check_error_order(self, places_behind, {"row": [0, 1]}, different + [full])
        check_error_order(self, looks_of, {"row": [0, 0]}, rows + [(Empty, "row", [[], ()])])
        many = [(BadArms, "arms", bad_arms()), (BadMany, "many", bad_integers(0, 12)),
                (TooLarge, "many", [9, 10, 11, 12])]
        check_error_order(self, looks_over, {"many": 3}, many)
        check_arms_errors(self, looks_over, 8, worse=[(9,), (13,), (None,)])

    def test_twelve_keys(self):
        for arms in ALL_ARMS:
            heap = list(range(12))
            for work in self.works:
                check_raises(self, Full, work, heap, -1, 0, arms=arms)
                check_raises(self, Full, work, heap, None, None, arms=arms)
                check_time(self, work, heap[:11], -1, 10, arms=arms)
                check_raises(self, SameKeys, work, [3] * 12, 5, 20, arms=arms)
            check_raises(self, Full, places_behind, heap, arms=arms)
            self.assertEqual(len(check_time(self, looks_of, heap, arms=arms)), 2)
            check_time(self, places_behind, heap[:11], arms=arms)

    def test_keys_that_are_not_less(self):
        for work in self.works:
            for least in (3, 4, GREATEST, -GREATEST - 1, 10 ** 30, -10 ** 30) + tuple(not_integers()):
                check_raises(self, BadKey, work, (3, 5), least, 0)
                check_raises(self, BadKey, work, (3, 5), least, 2)
            for least in (2, 0, -GREATEST):
                work((3, 5), least, 0)
            check_raises(self, BadKey, work, (-GREATEST,), -GREATEST, 0)

    def test_bad_places(self):
        for arms in ALL_ARMS:
            for many in range(1, 12):
                for work in self.works:
                    for place in bad_integers(0, many - 1):
                        check_raises(self, BadPlace, work, list(range(many)), -1, place, arms=arms)

    def test_results_are_new(self):
        first = places_behind((0, 1, 2))
        kept = list(first)
        first.clear()
        self.assertEqual(places_behind((0, 1, 2)), kept)
        places_behind([]).append(3)
        self.assertEqual(places_behind([]), [])

    def test_arguments_are_left_alone(self):
        for work in (lambda row: undo_take(row, 1, 2), lambda row: undo_take(row, 1, 1), places_behind, looks_of,
                     lambda row: Over(2, 5).shows(row, 1, 1), lambda row: Before((1,)).shows(row, 1, 1)):
            row = [2, 3, 5, 7, 4]
            found = work(row)
            self.assertEqual(row, [2, 3, 5, 7, 4])
            row.clear()
            self.assertEqual(found, work((2, 3, 5, 7, 4)))

    def test_parameters(self):
        for work, args in ((undo_take, ([1], 0, 0)), (places_behind, ([1],)), (looks_of, ([1],)), (looks_over, (1,)),
                           (Before((0, 1)).shows, ([1], 0, 0)), (Over(0, 0).shows, ([1], 0, 0))):
            work(*args)
            self.assertRaises(TypeError, work, *args, 2)


if __name__ == "__main__":
    unittest.main()

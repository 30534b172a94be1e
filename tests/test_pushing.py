import collections
import itertools
import random
import unittest

from heaprows.errors import BadArms, BadMany, BadPlace, BadRow, Empty, NotHeap, SameKeys, TooLarge
from heaprows.pushing import (Pushed, Stuck, Undone, how_many_orders, last_places, most_pushed, orders_of, push_all,
                              undo_push)
from helpers import (ALL_ARMS, GREATEST, bad_arms, bad_integers, bad_row_values, check_arms_errors, check_equality,
                     check_error_order, check_example, check_heap_errors, check_raises, check_row_errors,
                     check_same_keys, check_time, check_values, full_heaps, heap_like, parent, sample_heaps,
                     sample_rows, step_up, up)

EXAMPLE = """
>>> from heaprows.pushing import how_many_orders, last_places, orders_of, push_all, undo_push
>>> made, one, two = push_all([3, 1, 2]), undo_push((1, 3, 2), 0), undo_push((1, 2, 3), 0)
>>> found = [made.row, made.changes, made.looks, one.row, one.key, two.place, two.other]
>>> [found, last_places((1, 3, 2)), last_places((1, 2, 3)), how_many_orders((1, 3, 2)), orders_of((1, 2, 3))]
[[(1, 3, 2), 1, 2, (2, 3), 1, 2, 1], [0, 2], [2], 4, [(1, 2, 3), (2, 1, 3)]]
"""
ODD_PLACES = (-1, -2, 12, 13, 10 ** 30, -10 ** 30)


def pushed(keys, arms):
    """The heap, the changes and the looks of keys that are pushed, worked out step by step."""
    heap, changes, looks = (), 0, 0
    for key in keys:
        heap, way, more = step_up(heap + (key,), len(heap), arms)
        changes += len(way) - 1
        looks += more
    return heap, changes, looks


def last_way(many, arms):
    return up(many - 1, arms)[::-1]


def pushes_that_lead_to(many, arms):
    """A dict from pairs of a heap and a place to all pairs of a heap before and a key that lead there."""
    found = collections.defaultdict(list)
    for key in range(many):
        for heap in full_heaps(many - 1, arms):
            before = tuple(other + (other >= key) for other in heap)
            row, way, _ = step_up(before + (key,), many - 1, arms)
            found[row, way[-1]].append((before, key))
    return found


def is_stuck(stuck, row, at, arms):
    place, other = stuck
    many = len(row)
    below = last_way(many, arms)
    below = below[below.index(at) + 1:]
    return (place in below and 0 < other < many and other != place and parent(other, arms) == parent(place, arms)
            and row[other] < row[place])


def stretched(row):
    """Other keys in the same order."""
    return tuple(key * 1000 - 2500 for key in row)


class PushAllTest(unittest.TestCase):
    def test_example(self):
        check_example(self, EXAMPLE)

    def test_step_by_step(self):
        for row in sample_rows():
            for arms in ALL_ARMS:
                for given in (row, list(row)):
                    made = push_all(given, arms=arms)
                    self.assertIs(type(made), Pushed)
                    check_values(self, (made.row, made.changes, made.looks), pushed(row, arms))
                self.assertTrue(heap_like(made.row, arms))
                self.assertEqual(sorted(made.row), sorted(row))
            self.assertEqual(push_all(row), push_all(row, arms=2))

    def test_few_keys(self):
        for arms in ALL_ARMS:
            self.assertEqual(push_all([], arms=arms), Pushed((), 0, 0))
            self.assertEqual(push_all([-GREATEST], arms=arms), Pushed((-GREATEST,), 0, 0))
            self.assertEqual(push_all([GREATEST, -GREATEST], arms=arms), Pushed((-GREATEST, GREATEST), 1, 1))
            self.assertEqual(push_all([5] * 12, arms=arms), Pushed((5,) * 12, 0, 11))

    def test_most_pushed(self):
        for arms in ALL_ARMS:
            for many in range(13):
                most = sum(len(up(place, arms)) - 1 for place in range(many))
                check_values(self, most_pushed(many, arms=arms), most)
                self.assertEqual(pushed(range(many, 0, -1), arms)[1], most)
            for many in range(7):
                found = max(pushed(keys, arms)[1] for keys in itertools.permutations(range(many)))
                self.assertEqual(most_pushed(many, arms=arms), found)
        self.assertEqual([most_pushed(many) for many in range(13)], [most_pushed(many, arms=2) for many in range(13)])
        self.assertEqual([most_pushed(12, arms=1), most_pushed(12), most_pushed(12, arms=4)], [66, 25, 18])

    def test_pushed_is_as_it_is_made(self):
        row = [1, 2]
        made = Pushed(row, 3, 4)
        row.append(5)
        check_values(self, vars(made), {"row": (1, 2), "changes": 3, "looks": 4})
        check_values(self, vars(Pushed(row=(), changes=0, looks=0)), {"row": (), "changes": 0, "looks": 0})
        check_equality(self, Pushed, ((1, 2), 3, 4), [((1, 3), 3, 4), ((1, 2), 2, 4), ((1, 2), 3, 3)],
                       Undone((1, 2), 3))

    def test_errors(self):
        check_row_errors(self, push_all)
        check_row_errors(self, push_all, arms=3)
        check_arms_errors(self, push_all, [2, 1], worse=[(None,), ([None],), ([0] * 13,)])
        check_error_order(self, push_all, {"keys": [2, 1]},
                          [(BadArms, "arms", bad_arms()), (BadRow, "keys", bad_row_values())])
        check_error_order(self, most_pushed, {"many": 12},
                          [(BadArms, "arms", bad_arms()), (BadMany, "many", bad_integers(0, 12))])
        for work in (push_all, most_pushed):
            self.assertRaises(TypeError, work, [] if work == push_all else 0, 2)

    def test_arguments_are_left_alone(self):
        keys = [3, 1, 2]
        made = push_all(keys)
        self.assertEqual(keys, [3, 1, 2])
        keys.clear()
        self.assertEqual(made.row, (1, 3, 2))


class UndoPushTest(unittest.TestCase):
    def test_all_heaps(self):
        for arms in ALL_ARMS:
            for many in range(1, 7):
                could = pushes_that_lead_to(many, arms)
                self.assertEqual(sum(map(len, could.values())), many * len(full_heaps(many - 1, arms)))
                for heap in full_heaps(many, arms):
                    for place in last_way(many, arms):
                        self.check_undo(heap, place, arms, could.pop((heap, place), []))
                self.assertEqual(could, {})

    def check_undo(self, heap, place, arms, could):
        self.assertLessEqual(len(could), 1)
        for given in (heap, list(heap)):
            found = undo_push(given, place, arms=arms)
            if could:
                self.assertIs(type(found), Undone)
                check_values(self, (found.row, found.key), could[0])
            else:
                self.assertIs(type(found), Stuck)
                self.assertTrue(is_stuck((found.place, found.other), heap, place, arms))
            self.assertIs(found.shows(given, place, arms=arms), True)
        wide = undo_push(stretched(heap), place, arms=arms)
        self.assertIs(type(wide), type(found))
        self.assertIs(wide.shows(stretched(heap), place, arms=arms), True)
        if could:
            self.assertEqual((wide.row, wide.key), (stretched(found.row), stretched((found.key,))[0]))

    def test_larger_heaps(self):
        kinds = set()
        for arms in ALL_ARMS:
            for heap in sample_heaps(arms):
                if heap and len(set(heap)) == len(heap):
                    for place in last_way(len(heap), arms):
                        found = undo_push(heap, place, arms=arms)
                        self.assertIs(found.shows(heap, place, arms=arms), True)
                        if type(found) is Undone:
                            after, way, _ = step_up(found.row + (found.key,), len(heap) - 1, arms)
                            self.assertTrue(heap_like(found.row, arms))
                            self.assertEqual((after, way[-1]), (heap, place))
                        else:
                            self.assertTrue(is_stuck((found.place, found.other), heap, place, arms))
                        kinds.add((type(found), len(heap), arms))
        for arms in (2, 3, 4):
            self.assertLessEqual({(Undone, 12, arms), (Stuck, 12, arms)}, kinds)
        self.assertNotIn((Stuck, 12, 1), kinds)

    def test_last_places(self):
        for arms in ALL_ARMS:
            for many in range(1, 7):
                could = pushes_that_lead_to(many, arms)
                for heap in full_heaps(many, arms):
                    places = [place for place in range(many) if (heap, place) in could]
                    check_values(self, last_places(heap, arms=arms), places)
                    check_values(self, last_places(list(stretched(heap)), arms=arms), places)
        expected = [list(range(12)), [2, 5, 11], [11], [11]]
        self.assertEqual([last_places(tuple(range(12)), arms=arms) for arms in ALL_ARMS], expected)

    def test_two_arms_by_default(self):
        for heap in full_heaps(5, 2):
            self.assertEqual(last_places(heap), last_places(heap, arms=2))
            self.assertEqual(how_many_orders(heap), how_many_orders(heap, arms=2))
            self.assertEqual(orders_of(heap), orders_of(heap, arms=2))
            for place in (0, 1, 4):
                self.assertEqual(undo_push(heap, place), undo_push(heap, place, arms=2))
                self.assertIs(undo_push(heap, place).shows(heap, place), True)


class ShowsTest(unittest.TestCase):
    def test_undone(self):
        for arms in ALL_ARMS:
            for many in range(1, 5):
                rows = [row for length in range(many + 1) for row in itertools.product(range(many), repeat=length)]
                for heap in full_heaps(many, arms):
                    for place in last_way(many, arms):
                        for row in rows:
                            for key in range(-1, many + 1):
                                expected = heap_like(row, arms) and len(row) == many - 1
                                if expected:
                                    after, way, _ = step_up(row + (key,), many - 1, arms)
                                    expected = (after, way[-1]) == (heap, place)
                                self.assertIs(Undone(row, key).shows(heap, place, arms=arms), expected)

    def test_undone_with_a_row_that_is_no_heap(self):
        # Pushing the key to this row would give the heap, but the row itself is no heap.
        self.assertIs(Undone((2, 1), 0).shows((0, 1, 2), 0), False)
        self.assertIs(Undone((3, 0, 4), 1).shows((0, 1, 4, 3), 1), False)
        self.assertIs(Undone((0, 5, 1, 3, 4), 2).shows((0, 3, 1, 5, 4, 2), 5), False)

    def test_undone_at_another_place(self):
        heap = (0, 1, 2, 3)
        self.assertIs(Undone((0, 1, 2), 3).shows(heap, 3), True)
        self.assertIs(Undone((0, 1, 2), 3).shows(heap, 1), False)
        self.assertIs(Undone((0, 3, 2), 1).shows(heap, 1), True)
        self.assertIs(Undone((0, 3, 2), 1).shows(heap, 3), False)
        self.assertIs(Undone(tuple(range(11)), 11).shows(tuple(range(12)), 11), True)
        self.assertIs(Undone(tuple(range(10)), 11).shows(tuple(range(12)), 11), False)
        self.assertIs(Undone((), 5).shows([5], 0), True)
        self.assertIs(Undone((), 4).shows([5], 0), False)

    def test_stuck(self):
        for arms in ALL_ARMS:
            for many in range(1, 7):
                numbers = list(range(-many, many + 2)) + list(ODD_PLACES)
                for heap in full_heaps(many, arms)[::3]:
                    for at in last_way(many, arms):
                        for place, other in itertools.product(numbers, repeat=2):
                            expected = is_stuck((place, other), heap, at, arms)
                            self.assertIs(Stuck(place, other).shows(heap, at, arms=arms), expected)

    def test_current_attributes(self):
        undone = Undone((0, 1), 2)
        self.assertIs(undone.shows((0, 1, 2), 2), True)
        undone.key = 3
        self.assertIs(undone.shows((0, 1, 2), 2), False)
        undone.key, undone.row = 2, (0, 3)
        self.assertIs(undone.shows((0, 1, 2), 2), False)
        stuck = Stuck(2, 1)
        self.assertIs(stuck.shows((1, 2, 3), 0), True)
        stuck.other = 2
        self.assertIs(stuck.shows((1, 2, 3), 0), False)
        stuck.place, stuck.other = 1, 2
        self.assertIs(stuck.shows((1, 2, 3), 0), False)

    def test_attributes_and_equality(self):
        row = [0, 1]
        undone = Undone(row, 2)
        row.clear()
        check_values(self, vars(undone), {"row": (0, 1), "key": 2})
        check_values(self, vars(Undone(row=(), key=-1)), {"row": (), "key": -1})
        check_values(self, vars(Stuck(place=3, other=4)), {"place": 3, "other": 4})
        check_equality(self, Undone, ((0, 1), 2), [((0, 2), 2), ((0, 1), 3), ((0,), 2)], Stuck(0, 2))
        check_equality(self, Stuck, (3, 4), [(3, 5), (4, 4), (4, 3)], Undone((3,), 4))


class OrdersTest(unittest.TestCase):
    def check_orders(self, keys, arms):
        orders = collections.defaultdict(list)
        for order in itertools.permutations(sorted(keys)):
            orders[pushed(order, arms)[0]].append(order)
        for heap, expected in orders.items():
            check_values(self, orders_of(heap, arms=arms), expected)
            check_values(self, how_many_orders(heap, arms=arms), len(expected))
        return orders

    def test_all_orders(self):
        for arms in ALL_ARMS:
            for many in range(7):
                orders = self.check_orders(range(many), arms)
                self.assertEqual(sorted(orders), list(full_heaps(many, arms)))
            self.check_orders((-GREATEST, 17, GREATEST, 3, -5), arms)

    def test_orders_of_all_heaps_are_all_orders(self):
        for arms in ALL_ARMS:
            found = [order for heap in full_heaps(7, arms) for order in orders_of(heap, arms=arms)]
            self.assertEqual(sorted(found), list(itertools.permutations(range(7))))
            self.assertEqual(sum(how_many_orders(heap, arms=arms) for heap in full_heaps(7, arms)), 5040)

    def test_no_keys(self):
        for arms in ALL_ARMS:
            check_values(self, orders_of([], arms=arms), [()])
            check_values(self, how_many_orders((), arms=arms), 1)

    def test_limits(self):
        draw = random.Random(5)
        for arms in ALL_ARMS:
            heaps = [tuple(range(8))] + draw.sample(full_heaps(8, arms), min(5, len(full_heaps(8, arms))))
            for heap in heaps:
                number = check_time(self, how_many_orders, heap, arms=arms)
                self.assertTrue(1 <= number <= 40320)
                check_raises(self, TooLarge, orders_of, heap, arms=arms)
            self.assertEqual(how_many_orders(tuple(range(8)), arms=1), 40320)
            check_time(self, orders_of, tuple(range(7)), arms=arms)
            self.assertEqual(len(orders_of(tuple(range(7)), arms=1)), 5040)
            for many in range(9, 13):
                check_raises(self, TooLarge, how_many_orders, list(range(many)), arms=arms)
                check_raises(self, TooLarge, orders_of, list(range(many)), arms=arms)
            keys = list(range(12, 0, -1))
            made = check_time(self, push_all, keys, arms=arms)
            self.assertEqual(made.changes, check_time(self, most_pushed, 12, arms=arms))
            for place in last_way(12, arms):
                found = check_time(self, undo_push, made.row, place, arms=arms)
                self.assertIs(check_time(self, found.shows, made.row, place, arms=arms), True)
            self.assertEqual(check_time(self, last_places, made.row, arms=arms)[0], 0)

    def test_eight_keys(self):
        draw = random.Random(6)
        for arms in ALL_ARMS:
            for heap in draw.choices(full_heaps(8, arms), k=8):
                before = [undo_push(heap, place, arms=arms).row for place in last_places(heap, arms=arms)]
                number = sum(len(orders_of(row, arms=arms)) for row in before)
                self.assertEqual(how_many_orders(heap, arms=arms), number)

    def test_lists_are_new(self):
        heap = (0, 1, 2, 3)
        for work in (orders_of, last_places):
            first = work(heap)
            kept = list(first)
            first.clear()
            self.assertEqual(work(heap), kept)
        orders_of([]).clear()
        self.assertEqual(orders_of([]), [()])


class PushingErrorsTest(unittest.TestCase):
    not_heaps = [[2, 1], [1, 1, 0], [0, 1, 2, 0, 0], [5] * 8 + [4], list(range(12))[::-1]]
    same = [[0, 0], [0, 1, 1], (3, 4, 4, 4), [7] * 9, (0,) * 12]

    def test_bad_rows(self):
        for rest in ((0,), (None,), (12,)):
            check_heap_errors(self, undo_push, *rest)
            check_heap_errors(self, Undone((), 0).shows, *rest)
            check_heap_errors(self, Stuck(1, 2).shows, *rest)
            for work in (undo_push, Undone((), 0).shows, Stuck(1, 2).shows):
                check_same_keys(self, work, *rest)
        for work in (last_places, how_many_orders, orders_of):
            check_heap_errors(self, work)
            check_same_keys(self, work)

    def test_order_of_errors(self):
        places = bad_integers(0, 4) + [2, 3, -5]
        rows = [(BadArms, "arms", bad_arms()), (BadRow, "row", bad_row_values()), (NotHeap, "row", self.not_heaps),
                (SameKeys, "row", self.same)]
        for work in (undo_push, Undone((0, 1, 2, 3), 4).shows, Stuck(4, 3).shows):
            check_error_order(self, work, {"row": [0, 1, 2, 3, 4], "place": 1},
                              rows + [(Empty, "row", [[], ()]), (BadPlace, "place", places)])
        check_error_order(self, last_places, {"row": [0, 1]}, rows + [(Empty, "row", [[], ()])])
        large = [list(range(many)) for many in range(9, 13)]
        check_error_order(self, how_many_orders, {"row": [0, 1]}, rows + [(TooLarge, "row", large)])
        check_error_order(self, orders_of, {"row": [0, 1]}, rows + [(TooLarge, "row", large + [tuple(range(8))])])

    def test_places_of_the_last_way(self):
        for arms in ALL_ARMS:
            for many in range(1, 13):
                heap = list(range(many))
                for place in range(-1, 14):
                    for work in (undo_push, Undone((), 0).shows, Stuck(1, 2).shows):
                        if place in last_way(many, arms):
                            work(heap, place, arms=arms)
                        else:
                            check_raises(self, BadPlace, work, heap, place, arms=arms)

    def test_arms_decide(self):
        self.assertEqual(check_raises(self, NotHeap, last_places, (1, 5, 2, 6, 3)).place, 4)
        self.assertEqual(check_raises(self, NotHeap, orders_of, (1, 5, 2, 6, 3), arms=1).place, 2)
        self.assertEqual(last_places((1, 5, 2, 6, 3), arms=4), [4])

    def test_arguments_are_left_alone(self):
        for work in (lambda row: undo_push(row, 0), lambda row: undo_push(row, 2), last_places, how_many_orders,
                     orders_of, lambda row: Undone((2, 3), 1).shows(row, 0), lambda row: Stuck(2, 1).shows(row, 0)):
            for row in ([1, 3, 2], [1, 2, 3]):
                given = list(row)
                found = work(given)
                self.assertEqual(given, row)
                given.clear()
                self.assertEqual(found, work(row))

    def test_parameters(self):
        for work, args in ((undo_push, ([1], 0)), (last_places, ([1],)), (how_many_orders, ([1],)),
                           (orders_of, ([1],)), (Undone((), 1).shows, ([1], 0)), (Stuck(0, 0).shows, ([1], 0))):
            work(*args)
            self.assertRaises(TypeError, work, *args, 2)


if __name__ == "__main__":
    unittest.main()

"""Promise 14: keepers, changes, codes of orders, and orders by how many items come in."""

import itertools
import math
import random
import unittest

from heaprows.errors import BadArms, BadCode, BadIndex, BadKey, BadMany, BadNumber, BadOrder, BadRoom, BadRow
from heaprows.streams import Keeper, changes, many_orders, order_at, order_by, order_code, order_index
from helpers import (
    ALL_ARMS, GREATEST, bad_arms, bad_integers, bad_keys, bad_row_values, check_error_order, check_example,
    check_raises, check_row_errors, check_time, check_values, heap_like, not_integers, step_down, step_up)

EXAMPLE = """
>>> from heaprows.streams import Keeper, changes, many_orders, order_at, order_by, order_code, order_index
>>> keeper = Keeper(2)
>>> [[keeper.see(key) for key in (5, 3, 4, 1)], keeper.heap, keeper.entered, changes(1, (2, 9, 4)), order_code((1, 0, 2)), order_by((0, 1, 1)), [many_orders(3, 1, number) for number in range(4)], order_at(3, 1, 2, 0), order_index(1, (1, 2, 0))]
[[(True, None), (True, None), (True, 3), (False, None)], (4, 5), 3, 2, (0, 1, 0), (2, 0, 1), [0, 2, 3, 1], (0, 2, 1), 1]
"""

ROOMS = range(1, 13)


def bad_rooms():
    return not_integers() + [0, 13, -1, 10 ** 30, -10 ** 30, 10 ** 5000]


def drawn_keys(draw, many):
    kind = draw.randrange(4)
    if kind == 0:
        return [draw.randint(-3, 3) for _ in range(many)]
    if kind == 1:
        return [draw.choice((-GREATEST, GREATEST, -GREATEST + 1, GREATEST - 1, 0)) for _ in range(many)]
    if kind == 2:
        return draw.sample(range(100), many)
    return [draw.randint(-GREATEST, GREATEST) for _ in range(many)]


def step(heap, key, room, arms):
    """The heap of a keeper after a key, and what seeing the key must return."""
    if len(heap) < room:
        return step_up(heap + (key,), len(heap), arms)[0], (True, None)
    if key > heap[0]:
        return step_down((key,) + heap[1:], 0, arms)[0], (True, heap[0])
    return heap, (False, None)


def coming(room, keys):
    """How many keys come in, by the greatest keys seen before, not by a heap."""
    number = 0
    for at, key in enumerate(keys):
        held = sorted(keys[:at])[-room:]
        number += len(held) < room or key > held[0]
    return number


def code_of(order):
    return tuple(sum(order[before] > order[at] for before in range(at)) for at in range(len(order)))


def ordered(many):
    return sorted(itertools.permutations(range(many)), key=code_of)


class KeeperTest(unittest.TestCase):
    def test_example(self):
        check_example(self, EXAMPLE)

    def test_step_by_step(self):
        draw = random.Random(1)
        for arms in ALL_ARMS:
            for room in ROOMS:
                for many in (5, 9, 20, 40):
                    keeper, heap, entered, seen = Keeper(room, arms=arms), (), 0, []
                    for key in drawn_keys(draw, many):
                        heap, told = step(heap, key, room, arms)
                        check_values(self, keeper.see(key), told)
                        entered += told[0]
                        seen.append(key)
                        check_values(self, (keeper.heap, keeper.entered, len(keeper)), (heap, entered, len(heap)))
                        check_values(self, keeper.ascending(), sorted(seen)[-room:])
                        self.assertTrue(heap_like(keeper.heap, arms))
                        self.assertTrue(all((thing in keeper) is (thing in heap) for thing in seen + [key + 1]))

    def test_without_keys(self):
        for arms in ALL_ARMS:
            keeper = Keeper(12, arms=arms)
            check_values(self, [keeper.heap, keeper.entered, keeper.ascending(), len(keeper)], [(), 0, [], 0])
            check_values(self, [keeper.room, keeper.arms], [12, arms])
            self.assertIs(0 in keeper, False)
        check_values(self, [Keeper(1).arms, Keeper(room=3).room], [2, 3])

    def test_things_in_a_keeper(self):
        keeper = Keeper(3)
        for key in (0, 1, GREATEST):
            keeper.see(key)
        for thing in not_integers() + [2, -1, 10 ** 30, -GREATEST, 10 ** 5000]:
            self.assertIs(thing in keeper, False)
        for thing in (0, 1, GREATEST):
            self.assertIs(thing in keeper, True)

    def test_refused_keys_change_nothing(self):
        keeper = Keeper(2, arms=3)
        for key in (4, 9, 6):
            keeper.see(key)
        for wrong in bad_keys() + [10 ** 5000, -10 ** 5000]:
            check_raises(self, BadKey, keeper.see, wrong)
            check_values(self, (keeper.heap, keeper.entered, len(keeper)), ((6, 9), 3, 2))
            check_raises(self, BadKey, Keeper(1).see, wrong)
        for key in (-GREATEST, GREATEST):
            check_values(self, Keeper(1).see(key), (True, None))

    def test_equal_keys_stay_out(self):
        keeper = Keeper(2)
        check_values(self, [keeper.see(5) for _ in range(4)],
                     [(True, None), (True, None), (False, None), (False, None)])
        check_values(self, [keeper.see(6), keeper.see(6), keeper.see(5)], [(True, 5), (True, 5), (False, None)])
        check_values(self, (keeper.heap, keeper.entered), ((6, 6), 4))

    def test_two_keepers_side_by_side(self):
        one, other = Keeper(2), Keeper(2)
        one.see(3)
        check_values(self, [one.heap, other.heap, one.entered, other.entered], [(3,), (), 1, 0])
        other.see(7)
        one.see(1)
        check_values(self, [one.heap, other.heap, one.entered, other.entered], [(1, 3), (7,), 2, 1])
        self.assertIs(one == one, True)
        self.assertIs(one != one, False)
        for thing in not_integers() + [other, Keeper(2), 1, (1, 3), one.heap]:
            self.assertIs(one == thing, False)
            self.assertIs(one != thing, True)

    def test_returned_things_are_new(self):
        keeper = Keeper(4)
        for key in (4, 2, 3):
            keeper.see(key)
        keeper.ascending().clear()
        check_values(self, [keeper.ascending(), keeper.heap], [[2, 3, 4], (2, 4, 3)])
        with self.assertRaises(AttributeError):
            keeper.heap = ()
        with self.assertRaises(AttributeError):
            keeper.entered = 0

    def test_errors(self):
        check_error_order(self, Keeper, {"room": 3}, [(BadArms, "arms", bad_arms()), (BadRoom, "room", bad_rooms())])
        for arms in ALL_ARMS:
            for room in ROOMS:
                Keeper(room, arms=arms)
        self.assertRaises(TypeError, Keeper, 3, 2)


class ChangesTest(unittest.TestCase):
    def test_rows_of_up_to_twelve_keys(self):
        draw = random.Random(2)
        for room in ROOMS:
            for many in range(13):
                for _ in range(8):
                    row = drawn_keys(draw, many)
                    check_values(self, changes(room, tuple(row)), coming(room, row))
                    check_values(self, changes(room=room, row=row), coming(room, row))
            for row in itertools.product(range(3), repeat=4):
                self.assertEqual(changes(room, row), coming(room, row))

    def test_errors(self):
        check_error_order(self, changes, {"room": 3, "row": [1, 2]},
                          [(BadRoom, "room", bad_rooms()), (BadRow, "row", bad_row_values())])
        check_row_errors(self, lambda row: changes(1, row))
        check_row_errors(self, lambda row: changes(12, row))
        row = [3, 1, 2]
        changes(1, row)
        self.assertEqual(row, [3, 1, 2])


class CodeTest(unittest.TestCase):
    def test_all_orders(self):
        for many in range(6):
            codes = set()
            for order in itertools.permutations(range(many)):
                code = order_code(order)
                check_values(self, code, code_of(order))
                check_values(self, order_code(list(order)), code)
                check_values(self, order_by(code), order)
                check_values(self, order_by(list(code)), order)
                codes.add(code)
            self.assertEqual(len(codes), math.factorial(many))
            self.assertEqual(codes, set(itertools.product(*[range(at + 1) for at in range(many)])))

    def test_drawn_orders(self):
        draw = random.Random(3)
        for many in range(6, 13):
            for _ in range(50):
                order = tuple(draw.sample(range(many), many))
                check_values(self, order_code(order), code_of(order))
                check_values(self, order_by(order_code(order)), order)
                code = tuple(draw.randint(0, at) for at in range(many))
                check_values(self, order_code(order_by(code)), code)
        last = tuple(range(12))
        check_values(self, [order_code(last), order_code(last[::-1]), order_by(last)], [(0,) * 12, last, last[::-1]])

    def wrong(self):
        wrong = [thing for thing in not_integers() if not isinstance(thing, (list, tuple)) or thing]
        wrong = [thing for thing in wrong if not isinstance(thing, (list, tuple))]
        return wrong + [0, 1, (True,), (False,), [False], (0, True), [False, 1], (1.5 and "1",), (None,), (0, None),
                        ("0",), ((0,),), ([0],), (-1,), (0, -1), (10 ** 30,), (0, 10 ** 30), (-10 ** 30,),
                        (10 ** 5000,), tuple(range(13)), list(range(13)), (0,) * 13, [0] * 14, "0", "01", b"\x00", b"",
                        {0: 0}, {0}, range(1), {}]

    def bad_orders(self):
        return self.wrong() + [(1,), (0, 0), (1, 1), (0, 2), (2, 0), (1, 2), (0, 1, 1), (3, 0, 1), [1, 2, 3],
                               (0, 1, 3), (0, 1, 2, 2), tuple(range(1, 13)), (0,) * 12]

    def bad_codes(self):
        return self.wrong() + [(1,), [1], (0, 2), (0, 0, 3), (1, 0), (0, 1, -1), (0, 1, 2, 4), (0,) * 11 + (12,)]

    def test_errors(self):
        for wrong in self.bad_orders():
            check_raises(self, BadOrder, order_code, wrong)
        for wrong in self.bad_codes():
            check_raises(self, BadCode, order_by, wrong)
        for many in range(4):
            for thing in itertools.product(range(-1, many + 1), repeat=many):
                if sorted(thing) != list(range(many)):
                    check_raises(self, BadOrder, order_code, thing)
                if not all(0 <= number <= at for at, number in enumerate(thing)):
                    check_raises(self, BadCode, order_by, thing)
        check_values(self, [order_code(()), order_code([]), order_by(()), order_by([])], [(), (), (), ()])
        check_error_order(self, order_index, {"room": 2, "order": (1, 0)},
                          [(BadRoom, "room", bad_rooms()), (BadOrder, "order", self.bad_orders())])

    def test_arguments_are_left_alone(self):
        order, code = [2, 0, 1], [0, 1, 1]
        self.assertEqual([order_code(order), order_by(code), order_index(1, order)][:2], [(0, 1, 1), (2, 0, 1)])
        self.assertEqual((order, code), ([2, 0, 1], [0, 1, 1]))
        check_values(self, [order_code(order=order), order_by(numbers=code)], [(0, 1, 1), (2, 0, 1)])


class OrdersTest(unittest.TestCase):
    def test_all_orders(self):
        for many in range(7):
            orders = ordered(many)
            for room in ROOMS:
                by_number = {}
                for order in orders:
                    by_number.setdefault(coming(room, order), []).append(order)
                for number in range(many + 1):
                    found = by_number.get(number, [])
                    check_values(self, many_orders(many, room, number), len(found))
                    for index, order in enumerate(found):
                        if room < 7 or index % 50 == 0:
                            check_values(self, order_at(many, room, number, index), order)
                            check_values(self, order_index(room, order), index)
                    check_raises(self, BadIndex, order_at, many, room, number, len(found))

    def test_sums(self):
        for many in range(13):
            for room in ROOMS:
                numbers = [check_time(self, many_orders, many, room, number) for number in range(many + 1)]
                self.assertEqual(sum(numbers), math.factorial(many))
                self.assertEqual([number > 0 for number in numbers],
                                 [number >= min(many, room) for number in range(many + 1)])

    def test_twelve_items(self):
        draw = random.Random(4)
        for many in range(7, 13):
            for room in ROOMS:
                for number in range(many + 1):
                    last = many_orders(many, room, number) - 1
                    drawn = {0, 1, last // 2, draw.randint(0, max(last, 0)), last - 1, last}
                    indices = sorted(index for index in drawn if 0 <= index <= last)
                    orders = [check_time(self, order_at, many, room, number, index) for index in indices]
                    self.assertEqual([check_time(self, order_index, room, order) for order in orders], indices)
                    self.assertEqual([code_of(order) for order in orders], sorted(map(code_of, orders)))
                    for order in orders:
                        self.assertEqual(sorted(order), list(range(many)))
                        self.assertIs(type(order), tuple)
                        self.assertEqual((coming(room, order), changes(room, order)), (number, number))
                for _ in range(3):
                    order = tuple(draw.sample(range(many), many))
                    number = coming(room, order)
                    check_values(self, order_at(many, room, number, order_index(room, list(order))), order)

    def test_neighbours(self):
        """Orders with indices side by side have no other such order between them."""
        draw = random.Random(5)
        for many, room in ((7, 1), (7, 3), (7, 6)):
            orders = ordered(many)
            for number in range(many + 1):
                found = [order for order in orders if coming(room, order) == number]
                self.assertEqual(len(found), many_orders(many, room, number))
                for index in draw.sample(range(len(found)), min(40, len(found))):
                    self.assertEqual(order_at(many, room, number, index), found[index])

    def test_errors(self):
        wrongs = [(BadMany, "many", bad_integers(0, 12) + [10 ** 5000]), (BadRoom, "room", bad_rooms()),
                  (BadNumber, "number", bad_integers(0, 4) + [10 ** 5000])]
        check_error_order(self, many_orders, {"many": 4, "room": 2, "number": 4}, wrongs)
        last = many_orders(4, 2, 3) - 1
        indices = wrongs + [(BadIndex, "index", bad_integers(0, last) + [10 ** 5000])]
        check_error_order(self, order_at, {"many": 4, "room": 2, "number": 3, "index": last}, indices)
        for index in bad_integers(0, -1):
            check_raises(self, BadIndex, order_at, 4, 2, 1, index)
        check_values(self, [many_orders(0, 1, 0), order_at(0, 1, 0, 0), order_index(1, ()), order_index(12, [])],
                     [1, (), 0, 0])
        for number in bad_integers(0, 0):
            check_raises(self, BadNumber, many_orders, 0, 12, number)


if __name__ == "__main__":
    unittest.main()

"""What the points of the document promise together."""

import itertools
import math
import random
import unittest

from heaprows.bounds import can_fit, fit, how_many_fit, ranks_within, told_bounds
from heaprows.building import by_changes, by_looks, code, decode, how_many_rows, rows_of
from heaprows.counting import all_heaps, how_many, index_of
from heaprows.dealing import how_many_of
from heaprows.heaps import build, push, put_for, take, take_by_hole
from heaprows.mending import fewest_changed, kept_sets, mend
from heaprows.pushing import how_many_orders, last_places, orders_of, push_all, undo_push
from heaprows.rows import falls, faults, is_heap, ranks
from heaprows.standing import can_stand, closed_sets, heap_with, ranks_of
from heaprows.taking import looks_of, places_behind, undo_take
from heaprows.ties import are_together, compare_ways, names_behind
from helpers import ALL_ARMS, full_heaps, heap_like, sample_rows


def drawn_rows(most, times, equal=True):
    draw = random.Random(31)
    found = []
    for many in range(most + 1):
        for _ in range(times):
            span = draw.choice((2, 4, 30)) if equal else 60
            keys = [draw.randint(0, span) for _ in range(many)] if equal else draw.sample(range(span), many)
            found.append(tuple(keys))
    return found


def moved(row):
    return tuple(key - 500 for key in row)


def wide(row):
    """The keys stretched, by another step each."""
    return tuple(key ** 3 + 7 * key for key in row)


class PointsTest(unittest.TestCase):
    def test_orders_and_rows_of_all_heaps_are_all_orders(self):
        draw = random.Random(32)
        for arms in ALL_ARMS:
            for many in range(6):
                keys = sorted(draw.sample(range(-50, 50), many))
                everything = list(itertools.permutations(keys))
                heaps = all_heaps(keys, arms=arms)
                orders = [order for heap in heaps for order in orders_of(heap, arms=arms)]
                rows = [row for heap in heaps for row in rows_of(heap, arms=arms)]
                self.assertEqual([sorted(orders), sorted(rows)], [everything, everything])
                self.assertEqual(sum(how_many_orders(heap, arms=arms) for heap in heaps), math.factorial(many))

    def test_heaps_times_rows(self):
        for arms in ALL_ARMS:
            for many in range(13):
                self.assertEqual(how_many(many, arms=arms) * how_many_rows(many, arms=arms), math.factorial(many))
                self.assertEqual(sum(by_changes(many, arms=arms)), sum(by_looks(many, arms=arms)))

    def test_takings_that_can_be_undone_count_the_heaps_with_one_key_more(self):
        for arms in ALL_ARMS:
            for many in range(1, 8):
                heaps = full_heaps(many, arms)
                found = sum(len(places_behind(heap, arms=arms)) for heap in heaps)
                self.assertEqual(found, how_many(many + 1, arms=arms))
                self.assertEqual(found, how_many_of(list(range(many + 1)), arms=arms))

    def test_what_is_undone_can_be_done_again(self):
        for arms in ALL_ARMS:
            for row in drawn_rows(11, 4, equal=False):
                heap = build(row, arms=arms).row
                for place in places_behind(heap, arms=arms):
                    before = undo_take(heap, -1, place, arms=arms).row
                    self.assertEqual([take(before, arms=arms)[0], take(before, arms=arms)[1].row], [-1, heap])
                    self.assertEqual(take_by_hole(before, arms=arms)[1].row, heap)
                for place in last_places(heap, arms=arms) if heap else ():
                    undone = undo_push(heap, place, arms=arms)
                    self.assertEqual(push(undone.row, undone.key, arms=arms).row, heap)
                self.assertEqual(decode(*code(row, arms=arms), arms=arms), row)

    def test_free_bounds_let_all_heaps(self):
        for arms in ALL_ARMS:
            for many in range(9):
                bounds = [(0, many - 1)] * many
                self.assertEqual(how_many_fit(bounds, arms=arms), how_many(many, arms=arms))
            for many in range(13):
                bounds = [(0, many - 1)] * many
                self.assertIs(can_fit(bounds, arms=arms), True)
                expected = [tuple(ranks_of(many, place, arms=arms)) for place in range(many)]
                self.assertEqual(ranks_within(bounds, arms=arms), expected)

    def test_bounds_and_standing(self):
        for arms in ALL_ARMS:
            for many in range(1, 8):
                for place, rank in itertools.product(range(many), repeat=2):
                    bounds = [(0, many - 1)] * many
                    bounds[place] = (rank, rank)
                    self.assertIs(can_fit(bounds, arms=arms), can_stand(many, place, rank, arms=arms))
                    self.assertIs(fit(bounds, arms=arms).shows(bounds, arms=arms), True)

    def test_drawn_bounds_around_a_heap(self):
        draw = random.Random(33)
        for arms in ALL_ARMS:
            for many in range(1, 9):
                for _ in range(10):
                    heap = draw.choice(full_heaps(many, arms))
                    bounds = [(draw.randint(0, key), draw.randint(key, many - 1)) for key in heap]
                    self.assertGreaterEqual(how_many_fit(bounds, arms=arms), 1)
                    for place, key in enumerate(heap):
                        self.assertIn(key, ranks_within(bounds, arms=arms)[place])
                        least, greatest = told_bounds(bounds, arms=arms)[place]
                        self.assertTrue(least <= key <= greatest)
                    exact = [(key, key) for key in heap]
                    self.assertEqual((how_many_fit(exact, arms=arms), fit(exact, arms=arms).row), (1, heap))

    def test_no_changed_key_exactly_in_a_heap(self):
        for row in sample_rows() + drawn_rows(12, 6):
            for arms in ALL_ARMS:
                heap = heap_like(row, arms)
                self.assertIs(fewest_changed(row, arms=arms) == 0, heap)
                self.assertIs(is_heap(row, arms=arms), heap)
                self.assertIs(build(row, arms=arms).changes == 0, heap)
                self.assertIs(mend(row, arms=arms).row == row, heap)

    def test_one_arm_means_a_sorted_row(self):
        for row in sample_rows() + drawn_rows(12, 6):
            ascending = tuple(sorted(row))
            self.assertIs(is_heap(row, arms=1), row == ascending)
            self.assertEqual(build(row, arms=1).row, ascending)
            self.assertEqual(push_all(row, arms=1).row, ascending)
            self.assertEqual(build(row, arms=1).changes, len(falls(row, arms=1)))
            self.assertEqual(push_all(row, arms=1).changes, len(falls(row, arms=1)))
            if len(row) < 9:
                self.assertEqual(all_heaps(row, arms=1), [ascending])

    def test_only_the_order_of_the_keys_counts(self):
        for row in drawn_rows(9, 5):
            for arms in ALL_ARMS:
                for other in (moved(row), wide(row), moved(wide(row))):
                    self.assertEqual(ranks(row), ranks(other))
                    for work in (faults, falls, is_heap, fewest_changed, kept_sets, how_many_of):
                        self.assertEqual(work(row, arms=arms), work(other, arms=arms))
                    one, two = push_all(row, arms=arms), push_all(other, arms=arms)
                    self.assertEqual((one.changes, one.looks, ranks(one.row)), (two.changes, two.looks, ranks(two.row)))
                    one, two = build(row, arms=arms), build(other, arms=arms)
                    self.assertEqual((one.stops, one.changes, one.looks), (two.stops, two.changes, two.looks))
                    self.assertEqual(mend(row, arms=arms).kept, mend(other, arms=arms).kept)
                    if len(row) < 8:
                        self.assertIs(are_together(row, arms=arms), are_together(other, arms=arms))
                    if row:
                        self.assertEqual(names_behind(one.row, arms=arms), names_behind(two.row, arms=arms))
                        self.assertEqual(looks_of(one.row, arms=arms), looks_of(two.row, arms=arms))

    def test_only_the_order_of_different_keys_counts(self):
        for row in drawn_rows(7, 5, equal=False):
            for arms in ALL_ARMS:
                heap = build(row, arms=arms).row
                for other in (moved(heap), wide(heap)):
                    self.assertEqual(places_behind(heap, arms=arms), places_behind(other, arms=arms))
                    self.assertEqual(how_many_orders(heap, arms=arms), how_many_orders(other, arms=arms))
                    self.assertEqual(index_of(heap, arms=arms), index_of(other, arms=arms))
                    self.assertEqual([ranks(found) for found in rows_of(heap, arms=arms)],
                                     [ranks(found) for found in rows_of(other, arms=arms)])
                    if heap:
                        self.assertEqual(last_places(heap, arms=arms), last_places(other, arms=arms))

    def test_different_keys_stay_together(self):
        for row in drawn_rows(7, 4, equal=False):
            for arms in ALL_ARMS:
                self.assertEqual(compare_ways(row, arms=arms).heaps, all_heaps(row, arms=arms))

    def test_closed_sets_are_where_least_keys_are(self):
        for arms in ALL_ARMS:
            for many in range(1, 8):
                for count in range(many + 1):
                    for places in closed_sets(many, count, arms=arms):
                        row = heap_with(many, places, arms=arms)
                        bounds = [(0, max(count - 1, 0)) if place in places else (min(count, many - 1), many - 1)
                                  for place in range(many)]
                        self.assertIs(can_fit(bounds, arms=arms), True)
                        self.assertTrue(all(low <= key <= high for key, (low, high) in zip(row, bounds)))


class OperationsTest(unittest.TestCase):
    def step(self, heap, held, draw, arms):
        """Do one drawn operation; return the heap and the sorted keys that must be in it afterwards."""
        key = draw.choice((draw.randint(-5, 5), draw.randint(-10 ** 9, 10 ** 9)))
        deeds = ["build"] + (["push", "push"] if len(heap) < 12 else []) + (["take", "hole", "put"] if heap else [])
        deed = draw.choice(deeds)
        if deed == "push":
            return push(heap, key, arms=arms).row, sorted(held + [key])
        if deed == "build":
            rest = list(heap)
            draw.shuffle(rest)
            return build(rest, arms=arms).row, held
        if deed == "put":
            out, sift = put_for(heap, key, arms=arms)
            self.assertEqual(out, held[0])
            return sift.row, sorted(held[1:] + [key])
        out, sift = (take if deed == "take" else take_by_hole)(heap, arms=arms)
        self.assertEqual(out, held[0])
        return sift.row, held[1:]

    def test_sixty_operations(self):
        for arms in ALL_ARMS:
            for seed in range(20):
                draw = random.Random(seed)
                heap, held = (), []
                for _ in range(60):
                    heap, held = self.step(heap, held, draw, arms)
                    self.assertTrue(heap_like(heap, arms))
                    self.assertEqual(sorted(heap), held)
                    self.assertEqual(fewest_changed(heap, arms=arms), 0)


if __name__ == "__main__":
    unittest.main()

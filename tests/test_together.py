"""What the points 12 to 19 of the document promise together."""

import itertools
import math
import random
import unittest

from heaprows.fronts import does_settle, fewest_places, front, judge_places, least_keys
from heaprows.heaps import build
from heaprows.knowing import know
from heaprows.looking import fewest_looks, is_sure, judge_rank, open_ranks, sure_places
from heaprows.queues import Queue
from heaprows.rows import ranks
from heaprows.runs import by_replacement, fewest_runs, judge_runs, least_room, many_of_one, runs_of
from heaprows.standing import closed_index, closed_sets, heap_with, is_closed, ranks_of
from heaprows.streams import Keeper, changes, many_orders, order_at, order_by, order_code, order_index
from heaprows.texts import read_heap, read_journal, write_heap, write_journal
from heaprows.ways import after, deeds, distance, route, states
from helpers import ALL_ARMS, full_heaps, heap_like

ROOMS = range(1, 13)
NAMES = ("a", "b", "c", "d", "e")


def drawn_heaps(seed, times, most=12, equal=True):
    draw = random.Random(seed)
    for _ in range(times):
        many, arms = draw.randint(0, most), draw.choice(ALL_ARMS)
        row = [draw.randint(0, draw.choice((2, 60))) for _ in range(many)] if equal else draw.sample(range(99), many)
        yield build(row, arms=arms).row, arms


class OrdersAndRunsTest(unittest.TestCase):
    def test_as_many_orders_have_one_run_as_come_in_whole(self):
        for many in range(13):
            for room in ROOMS:
                self.assertEqual(many_of_one(many, room), many_orders(many, room, many))
                if room >= many:
                    self.assertEqual(many_of_one(many, room), math.factorial(many))

    def test_the_same_orders(self):
        for many in range(6):
            for order in itertools.permutations(range(many)):
                for room in range(1, 7):
                    whole = changes(room, order) == many
                    self.assertIs(fewest_runs(room, order) <= 1, whole)
                    self.assertIs(least_room(order, 1) <= room, whole)

    def test_drawn_orders(self):
        draw = random.Random(1)
        for _ in range(300):
            many, room = draw.randint(1, 12), draw.choice(ROOMS)
            index = draw.randrange(many_of_one(many, room))
            order = order_at(many, room, many, index)
            self.assertEqual(by_replacement(room, order), [tuple(range(many))])
            self.assertEqual(order_index(room, order), index)
            order = tuple(draw.sample(range(many), many))
            one = all(number < room for number in order_code(order))
            self.assertIs(changes(room, order) == many, one)
            self.assertIs(len(by_replacement(room, order)) == 1, one)
            self.assertEqual(least_room(order, 1), max(order_code(order)) + 1)
            self.assertEqual(order_by(order_code(order)), order)

    def test_the_greatest_keys_of_a_stream_and_the_first_run(self):
        draw = random.Random(2)
        ones = 0
        for _ in range(600):
            many, room, arms = draw.randint(1, 12), draw.choice(ROOMS), draw.choice(ALL_ARMS)
            row = draw.sample(range(-50, 50), many)
            if draw.random() < 0.5:
                row = [sorted(row)[item] for item in order_at(many, room, many, draw.randrange(many_of_one(many, room)))]
            keeper, came, gone = Keeper(room, arms=arms), [], []
            for key in row:
                is_new, out = keeper.see(key)
                came += [key] * is_new
                gone += [out] * (out is not None)
            runs = by_replacement(room, row)
            self.assertEqual(keeper.ascending(), sorted(row)[-room:])
            self.assertEqual(keeper.entered, changes(room, row))
            self.assertLessEqual(set(runs[0]), set(came))
            self.assertEqual(gone + keeper.ascending(), sorted(came))
            if len(runs) == 1:
                ones += 1
                self.assertEqual(gone + keeper.ascending(), list(runs[0]))
                self.assertEqual(list(runs[0][-room:]), keeper.ascending())
        self.assertGreater(ones, 200)

    def test_what_is_judged_is_a_way(self):
        draw = random.Random(3)
        for _ in range(200):
            many, room = draw.randint(0, 12), draw.choice(ROOMS)
            row = draw.sample(range(99), many)
            runs = by_replacement(room, row)
            written = [key for run in runs for key in run]
            self.assertEqual(runs_of(room, row, written), runs)
            self.assertEqual(judge_runs(room, row, len(runs)).shows(room, row, len(runs)), True)
            self.assertEqual([len(by_replacement(more, row)) for more in ROOMS],
                             sorted([len(by_replacement(more, row)) for more in ROOMS], reverse=True))


class FrontsAndSetsTest(unittest.TestCase):
    def test_places_of_a_front_are_closed(self):
        for heap, arms in drawn_heaps(4, 300):
            many = len(heap)
            for count in range(many + 1):
                found = front(heap, count, arms=arms)
                taken = tuple(sorted(found.taken))
                self.assertIs(is_closed(many, taken, arms=arms), True)
                self.assertIs(is_closed(many, tuple(sorted(found.taken + found.waiting)), arms=arms), True)
                self.assertIn(taken, closed_sets(many, count, arms=arms))
                self.assertEqual([ranks(heap)[place] for place in found.taken], list(range(count)))
                self.assertEqual([heap[place] for place in found.taken], least_keys(heap, count, arms=arms))
                for place in found.taken:
                    self.assertIn(ranks(heap)[place], ranks_of(many, place, arms=arms))
                if found.taken:
                    self.assertEqual(front(heap, count - 1, arms=arms).taken, found.taken[:-1])

    def test_least_keys_of_a_closed_set(self):
        for arms in ALL_ARMS:
            for many in range(8):
                for count in range(many + 1):
                    for index, places in enumerate(closed_sets(many, count, arms=arms)):
                        heap = heap_with(many, places, arms=arms)
                        self.assertEqual(tuple(sorted(front(heap, count, arms=arms).taken)), places)
                        self.assertEqual(closed_index(many, places, arms=arms), index)

    def test_the_order_of_a_queue(self):
        for heap, arms in drawn_heaps(5, 150, equal=False):
            queue = Queue(arms=arms)
            for place, key in enumerate(heap):
                queue.put("abcdefghijkl"[place], key)
            self.assertEqual(queue.heap, heap)
            taken = front(heap, len(heap), arms=arms).taken
            self.assertEqual(queue.in_order(), ["abcdefghijkl"[place] for place in taken])
            self.assertEqual(read_heap(write_heap(heap, arms=arms), arms=arms), heap)


class LooksAndPlacesTest(unittest.TestCase):
    def test_a_look_at_all_places(self):
        for heap, arms in drawn_heaps(6, 150, equal=False):
            many = len(heap)
            look = front(heap, many, arms=arms).taken
            everything = tuple(range(many))
            self.assertEqual(sure_places(many, look, arms=arms), everything)
            for place in everything:
                self.assertEqual(judge_rank(many, look, place, arms=arms).rank, ranks(heap)[place])
                self.assertEqual(open_ranks(many, look, place, arms=arms), [ranks(heap)[place]])
                self.assertEqual(open_ranks(many, (), place, arms=arms), ranks_of(many, place, arms=arms))
            for count in range(many + 1):
                self.assertIs(does_settle(heap, count, everything, arms=arms), True)
                self.assertEqual(judge_places(heap, count, everything, arms=arms).least, sorted(heap)[:count])

    def test_what_settles_all_is_all(self):
        for heap, arms in drawn_heaps(7, 40, most=7, equal=False):
            if heap and heap[0] > 0:
                self.assertEqual(fewest_places(heap, len(heap), arms=arms).places, tuple(range(len(heap))))

    def test_a_settled_count_makes_places_of_a_front_sure(self):
        for arms in ALL_ARMS:
            for many in range(1, 7):
                for heap in full_heaps(many, arms)[:6]:
                    for count in range(many + 1):
                        found = front(heap, count, arms=arms)
                        look = found.taken + tuple(sorted(found.waiting, key=lambda place: heap[place]))
                        for rank, place in enumerate(found.taken):
                            self.assertIs(is_sure(many, look, place, arms=arms), True)
                            self.assertEqual(open_ranks(many, look, place, arms=arms), [rank])
                    for place in range(many):
                        self.assertLessEqual(len(fewest_looks(heap, place, arms=arms).look), many)

    def test_looks_and_knowledges(self):
        for arms in ALL_ARMS:
            for many in range(1, 6):
                first = full_heaps(many, arms)
                self.assertIn(first, know(many, None, arms=arms).plan)
                for rank in range(many):
                    free = [place for place in range(many) if rank in ranks_of(many, place, arms=arms)]
                    self.assertIs(know(many, rank, arms=arms).number == 0, len(free) == 1)


class WaysAndQueuesTest(unittest.TestCase):
    def test_the_deeds_of_a_way(self):
        draw = random.Random(8)
        for arms in ALL_ARMS:
            for pool in range(1, 6):
                known = states(pool, arms=arms)
                for _ in range(12):
                    one, other = draw.choice(known), draw.choice(known)
                    queue = self.queue_in(one, arms)
                    begun = len(queue.journal)
                    with queue.trial():
                        for deed in route(pool, one, other, arms=arms).deeds:
                            self.do(queue, deed)
                        self.assertEqual(queue.heap, other)
                        self.assertEqual(queue.names, tuple(NAMES[key] for key in other))
                        self.assertEqual(len(queue.journal) - begun, distance(pool, one, other, arms=arms))
                        text = write_journal(queue)
                    self.assertEqual((queue.heap, len(queue.journal)), (one, begun))
                    self.assertEqual(read_journal(text, arms=arms).heap, other)

    def queue_in(self, state, arms):
        """A queue whose heap is a state: pushed in the order of their places, keys stay where they are."""
        queue = Queue(arms=arms)
        for key in state:
            queue.put(NAMES[key], key)
        self.assertEqual(queue.heap, state)
        return queue

    def do(self, queue, deed):
        if deed == ("take",):
            least = queue.heap[0]
            self.assertEqual(queue.take(), NAMES[least])
        else:
            place = queue.put(NAMES[deed[1]], deed[1])
            self.assertEqual(queue.heap[place], deed[1])

    def test_drawn_histories(self):
        draw = random.Random(9)
        for arms in ALL_ARMS:
            for _ in range(20):
                queue, state, history = Queue(arms=arms), (), []
                for _ in range(40):
                    deed = draw.choice(deeds(5, state, arms=arms))
                    history.append(deed)
                    self.do(queue, deed)
                    state = after(5, state, [deed], arms=arms)
                    self.assertEqual(queue.heap, state)
                    self.assertTrue(heap_like(state, arms))
                    self.assertEqual(queue.in_order(), [NAMES[key] for key in sorted(state)])
                self.assertEqual(after(5, (), history, arms=arms), state)


if __name__ == "__main__":
    unittest.main()

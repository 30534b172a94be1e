"""Promise 17: fronts, least keys, sets of places that settle a count, Least."""

import itertools
import random
import unittest

from heaprows.errors import BadArms, BadNumber, BadRow, BadSet, NotHeap, TooLarge
from heaprows.fronts import (
    Front, Least, Settled, Unsettled, does_settle, fewest_places, front, judge_places, least_keys)
from helpers import (
    ALL_ARMS, GREATEST, bad_arms, bad_integers, bad_row_values, check_arms_errors, check_equality, check_error_order,
    check_example, check_heap_errors, check_raises, check_row_errors, check_time, check_values, children, heap_like,
    not_integers, sample_heaps, up)

EXAMPLE = """
>>> from heaprows.fronts import Unsettled, does_settle, fewest_places, front, judge_places
>>> row = (1, 3, 2, 7, 4, 9)
>>> [front(row, 3).taken, front(row, 3).waiting, does_settle(row, 3, (0, 1, 2, 5)), judge_places(row, 2, (0, 1, 2)).least, fewest_places(row, 3).places, len(fewest_places((5, 5, 5), 2).places), Unsettled((1, 3, 2, 7, 4, 2)).shows(row, 3, (0, 1, 2))]
[(0, 2, 1), (5,), True, [1, 2], (0, 1, 2, 5), 2, True]
"""


def front_step_by_step(row, count, arms):
    taken, waiting = (), {0} if row else set()
    for _ in range(count):
        if taken:
            waiting |= set(children(taken[-1], len(row), arms))
        least = min(row[place] for place in waiting)
        place = min(place for place in waiting if row[place] == least)
        taken += (place,)
        waiting -= {place}
    return taken, tuple(sorted(waiting))


def sets_of(many):
    return [places for size in range(many + 1) for places in itertools.combinations(range(many), size)]


def drawn_heap(draw, many, arms):
    kind = draw.randrange(4)
    keys = {0: [draw.randint(0, 3) for _ in range(many)],
            1: [draw.choice((-GREATEST, GREATEST, GREATEST - 1, 0)) for _ in range(many)],
            2: draw.sample(range(-50, 50), many),
            3: [draw.randint(-GREATEST, GREATEST) for _ in range(many)]}[kind]
    row = []
    for key in keys:
        row.append(key)
        for below, above in zip(up(len(row) - 1, arms), up(len(row) - 1, arms)[1:]):
            if row[below] < row[above]:
                row[below], row[above] = row[above], row[below]
    return tuple(row)


def heaps_with(heap, places, arms):
    """All heaps with the same keys at some places, with keys elsewhere at both ends and beside the keys there are."""
    keys = sorted({-GREATEST, GREATEST} | {key + more for key in heap for more in (-1, 0, 1)
                                           if abs(key + more) <= GREATEST})
    choices = [[heap[place]] if place in places else keys for place in range(len(heap))]
    return [row for row in itertools.product(*choices) if heap_like(row, arms)]


def is_other(row, heap, count, places, arms):
    return (len(row) == len(heap) and all(abs(key) <= GREATEST for key in row) and heap_like(row, arms)
            and all(row[place] == heap[place] for place in places) and sorted(row)[:count] != sorted(heap)[:count])


def small_heaps(arms):
    """Heaps of up to three places with few different keys, and some with four."""
    for keys in ((0, 1, 2), (-GREATEST, 0, GREATEST), (5, 5, 7)):
        for many in range(4):
            for row in itertools.product(sorted(set(keys)), repeat=many):
                if heap_like(row, arms):
                    yield row
    for row in ((0, 1, 2, 3), (0, 0, 0, 0), (1, 1, 2, 2), (-GREATEST, -GREATEST, 0, GREATEST), (0, 5, 5, 9),
                (GREATEST,) * 4, (-GREATEST,) * 4, (0, GREATEST, GREATEST, GREATEST), (1, 3, 1, 3)):
        if heap_like(row, arms):
            yield row


class FrontTest(unittest.TestCase):
    def test_example(self):
        check_example(self, EXAMPLE)

    def test_step_by_step(self):
        for arms in ALL_ARMS:
            for heap in sample_heaps(arms):
                for count in range(len(heap) + 1):
                    found = front(list(heap), count, arms=arms)
                    expected = front_step_by_step(heap, count, arms)
                    check_values(self, (found.taken, found.waiting), expected)
                    self.assertEqual(found, Front(*expected))
                    check_values(self, len(found), len(set(found.taken) | set(found.waiting)))
                    check_values(self, least_keys(heap, count, arms=arms), sorted(heap)[:count])
                    self.assertEqual([heap[place] for place in found.taken], sorted(heap)[:count])

    def test_drawn_heaps(self):
        draw = random.Random(1)
        for _ in range(300):
            many, arms = draw.randint(1, 12), draw.choice(ALL_ARMS)
            heap = drawn_heap(draw, many, arms)
            for count in range(many + 1):
                found = check_time(self, front, heap, count, arms=arms)
                check_values(self, (found.taken, found.waiting), front_step_by_step(heap, count, arms))

    def test_without_keys(self):
        for arms in ALL_ARMS:
            self.assertEqual(front((), 0, arms=arms), Front((), ()))
            check_values(self, [least_keys([], 0, arms=arms), len(front((), 0, arms=arms))], [[], 0])
            check_values(self, vars(front((5,), 0, arms=arms)), {"taken": (), "waiting": (0,)})
            check_values(self, vars(front((5,), 1, arms=arms)), {"taken": (0,), "waiting": ()})

    def test_children_wait_only_before_the_next_taking(self):
        check_values(self, [vars(front((1, 3, 2, 7, 4, 9), count)) for count in (0, 1, 2, 6)],
                     [{"taken": (), "waiting": (0,)}, {"taken": (0,), "waiting": ()},
                      {"taken": (0, 2), "waiting": (1,)}, {"taken": (0, 2, 1, 4, 3, 5), "waiting": ()}])
        check_values(self, vars(front((0, 0, 0, 0, 0), 3)), {"taken": (0, 1, 2), "waiting": (3, 4)})

    def test_attributes_and_equality(self):
        taken, waiting = [0, 2], [1]
        found = Front(taken, waiting)
        taken.clear()
        waiting.clear()
        check_values(self, vars(found), {"taken": (0, 2), "waiting": (1,)})
        check_values(self, [vars(Front(waiting=[], taken=[])), len(Front((0, 1), (2,)))],
                     [{"taken": (), "waiting": ()}, 3])
        check_equality(self, Front, ((0, 2), (1,)), [((0, 1), (2,)), ((0, 2), ()), ((), (1,))], Settled((0, 2)))

    def test_two_arms_by_default(self):
        row = (1, 3, 2, 7, 4, 9)
        for count in range(7):
            self.assertEqual(front(row, count), front(row, count, arms=2))
            self.assertEqual(least_keys(row, count), least_keys(row, count, arms=2))
            self.assertEqual(fewest_places(row, count), fewest_places(row, count, arms=2))
            self.assertEqual(judge_places(row, count, (0, 2)), judge_places(row, count, (0, 2), arms=2))
            self.assertIs(fewest_places(row, count).shows(row, count), True)
        self.assertEqual(front(count=3, row=row).taken, (0, 2, 1))
        self.assertEqual(least_keys(count=3, row=row), [1, 2, 3])
        self.assertIs(does_settle(places=(0, 1, 2, 5), count=3, row=row), True)
        self.assertEqual(judge_places(places=(0, 1, 2), count=2, row=row).least, [1, 2])
        self.assertEqual(fewest_places(count=3, row=row).places, (0, 1, 2, 5))


class SettledTest(unittest.TestCase):
    def test_all_sets_of_places(self):
        kinds = set()
        for arms in ALL_ARMS:
            for heap in small_heaps(arms):
                many = len(heap)
                for places in sets_of(many):
                    rows = heaps_with(heap, places, arms)
                    for count in range(many + 1):
                        settled = all(sorted(row)[:count] == sorted(heap)[:count] for row in rows)
                        found = judge_places(heap, count, places, arms=arms)
                        self.assertIs(type(found), Settled if settled else Unsettled, (heap, count, places, arms))
                        self.assertIs(does_settle(list(heap), count, places, arms=arms), settled)
                        self.check_judged(found, heap, count, places, arms)
                        kinds.add((many, arms, settled))
        self.assertLessEqual({(4, arms, settled) for arms in ALL_ARMS for settled in (True, False)}, kinds)

    def check_judged(self, found, heap, count, places, arms):
        self.assertIs(found.shows(list(heap), count, places, arms=arms), True)
        if type(found) is Settled:
            check_values(self, found.least, sorted(heap)[:count])
        else:
            self.assertIs(type(found.row), tuple)
            self.assertTrue(is_other(found.row, heap, count, places, arms))

    def test_up_to_twelve_places(self):
        draw = random.Random(2)
        kinds = set()
        for _ in range(400):
            many, arms = draw.randint(5, 12), draw.choice(ALL_ARMS)
            heap = drawn_heap(draw, many, arms)
            count = draw.randint(0, many)
            whole = front(heap, count, arms=arms)
            for places in (whole.taken + whole.waiting, draw.sample(range(many), draw.randint(0, many)), range(many)):
                places = tuple(sorted(places))
                found = check_time(self, judge_places, heap, count, places, arms=arms)
                self.check_judged(found, heap, count, places, arms)
                kinds.add(type(found))
                for row in self.some_heaps_with(draw, heap, places, arms):
                    if type(found) is Settled:
                        self.assertEqual(sorted(row)[:count], found.least)
            if count:
                self.assertIs(does_settle(heap, count, tuple(sorted(whole.taken + whole.waiting)), arms=arms), True)
            self.assertIs(does_settle(heap, count, tuple(range(many)), arms=arms), True)
        self.assertEqual(kinds, {Settled, Unsettled})

    def some_heaps_with(self, draw, heap, places, arms):
        """Some heaps with the same keys at some places: the others are lifted or lowered as far as drawn."""
        many = len(heap)
        for _ in range(10):
            row = list(heap)
            for place in draw.sample(range(many), many):
                if place not in places:
                    least = row[up(place, arms)[1]] if place else -GREATEST
                    most = min([row[child] for child in children(place, many, arms)] + [GREATEST])
                    row[place] = draw.choice((least, most, draw.randint(least, most)))
            self.assertTrue(heap_like(row, arms))
            yield row

    def test_other_lists(self):
        draw = random.Random(3)
        for _ in range(60):
            many, arms = draw.randint(1, 7), draw.choice(ALL_ARMS)
            heap = drawn_heap(draw, many, arms)
            for count in range(many + 1):
                for places in (tuple(range(many)), (), tuple(sorted(draw.sample(range(many), draw.randint(0, many))))):
                    settled = does_settle(heap, count, places, arms=arms)
                    least = sorted(heap)[:count]
                    others = [least, least[:-1], least[1:], least + [0], sorted(heap), [], least[::-1],
                              [key + 1 for key in least], [10 ** 30] * count, heap[:count], tuple(least)]
                    for other in others:
                        expected = settled and list(other) == least
                        self.assertIs(Settled(other).shows(heap, count, places, arms=arms), expected)

    def test_all_other_rows(self):
        for arms in ALL_ARMS:
            for heap in ((0, 1, 2), (1, 1, 1), (2, 2, 3)):
                for row in itertools.product(range(-1, 5), repeat=3):
                    for places in sets_of(3):
                        for count in range(4):
                            expected = is_other(row, heap, count, places, arms)
                            self.assertIs(Unsettled(row).shows(heap, count, places, arms=arms), expected)

    def test_rows_that_are_none(self):
        heap = (0, 5, 7)
        self.assertIs(Unsettled([0, 5, 5]).shows(heap, 3, (0, 1)), True)
        for wrong in ((), (0,), (0, 5), (0, 5, 5, 5), (0, 5, GREATEST + 1), (0, 5, 10 ** 5000), (0, 5, None),
                      (False, 5, 5), (0, 5, "7"), (0,) * 13, (0, 5, 4, 4), (0, 5, -1)):
            self.assertIs(Unsettled(wrong).shows(heap, 3, (0, 1)), False)
        self.assertIs(Unsettled((0, 5, GREATEST)).shows(heap, 3, (0, 1)), True)
        self.assertIs(Unsettled((1, 5, 7)).shows((0, 5, 7), 1, (1, 2)), True)
        self.assertIs(Unsettled((-GREATEST, 5, 7)).shows((0, 5, 7), 1, (1, 2)), True)
        self.assertIs(Unsettled((-GREATEST - 1, 5, 7)).shows((0, 5, 7), 1, (1, 2)), False)
        self.assertIs(Unsettled((True, 5, 7)).shows((0, 5, 7), 1, (1, 2)), False)
        self.assertIs(Settled([0, True]).shows((0, 1, 1), 2, (0, 1, 2)), False)
        self.assertIs(Settled([0, 1]).shows((0, 1, 1), 2, (0, 1, 2)), True)

    def test_keys_at_both_ends(self):
        # A key cannot be less than -10**9, nor greater than 10**9.
        self.assertIs(does_settle((-GREATEST, 0), 1, ()), False)
        self.assertIs(does_settle((-GREATEST, -GREATEST), 1, (1,)), True)
        self.assertIs(does_settle((-GREATEST, -GREATEST), 2, (1,)), True)
        self.assertIs(does_settle((GREATEST, GREATEST), 2, (0,)), True)
        self.assertIs(does_settle((GREATEST - 1, GREATEST), 2, (0,)), False)
        self.assertIs(does_settle((GREATEST,), 1, ()), False)
        self.assertEqual(fewest_places((GREATEST,) * 8, 8).places, (0,))
        self.assertEqual(fewest_places((-GREATEST,) * 8, 8, arms=1).places, (7,))

    def test_current_attributes(self):
        settled, unsettled = Settled([1]), Unsettled((1, 3))
        self.assertEqual([settled.shows((1, 2), 1, (0,)), unsettled.shows((1, 2), 2, (0,))], [True, True])
        settled.least.append(2)
        unsettled.row = [1, 2]
        self.assertEqual([settled.shows((1, 2), 1, (0,)), unsettled.shows((1, 2), 2, (0,))], [False, False])
        settled.least, unsettled.row = [1], [1, 9]
        self.assertEqual([settled.shows((1, 2), 1, (0,)), unsettled.shows((1, 2), 2, (0,))], [True, True])

    def test_attributes_and_equality(self):
        least, row = [1, 2], [3, 4]
        settled, unsettled = Settled(least), Unsettled(row)
        least.clear()
        row.clear()
        check_values(self, [vars(settled), vars(unsettled)], [{"least": [1, 2]}, {"row": (3, 4)}])
        check_values(self, [vars(Settled(least=(1,))), vars(Unsettled(row=[]))], [{"least": [1]}, {"row": ()}])
        check_equality(self, Settled, ([1, 2],), [([2, 1],), ([1],)], Unsettled((1, 2)))
        check_equality(self, Unsettled, ((1, 2),), [((2, 1),), ((1,),)], Settled((1, 2)))


class LeastTest(unittest.TestCase):
    def test_all_sets_of_up_to_six_places(self):
        draw = random.Random(4)
        heaps = [(heap, arms) for arms in ALL_ARMS for heap in draw.sample(list(small_heaps(arms)), 12)]
        heaps += [(drawn_heap(draw, many, arms), arms) for many in (4, 5, 6) for arms in ALL_ARMS for _ in range(4)]
        for heap, arms in heaps:
            many = len(heap)
            for count in range(many + 1):
                found = check_time(self, fewest_places, list(heap), count, arms=arms)
                self.assertIs(found.shows(heap, count, arms=arms), True)
                self.assertIs(type(found.places), tuple)
                good = [places for places in sets_of(many) if does_settle(heap, count, places, arms=arms)]
                self.assertEqual(len(found.places), min(map(len, good)))
                self.assertIn(found.places, good)
                size = len(found.places) - 1
                self.assertEqual(sorted(found.rows), [] if size < 0 else list(itertools.combinations(range(many), size)))
                for places, row in found.rows.items():
                    self.assertIs(type(row), tuple)
                    self.assertTrue(is_other(row, heap, count, places, arms))

    def test_different_keys(self):
        draw = random.Random(5)
        for _ in range(60):
            many, arms = draw.randint(1, 8), draw.choice(ALL_ARMS)
            heap = drawn_heap(draw, many, arms)
            if len(set(heap)) == many and GREATEST not in heap and -GREATEST not in heap:
                for count in range(1, many + 1):
                    whole = front(heap, count, arms=arms)
                    expected = tuple(sorted(whole.taken + whole.waiting))
                    # The children of the last place are neither taken nor waiting yet, but its key is known.
                    self.assertEqual(fewest_places(heap, count, arms=arms).places, expected)
                    for places in sets_of(many):
                        if not set(expected) <= set(places):
                            self.assertIs(does_settle(heap, count, places, arms=arms), False)

    def test_changed(self):
        for heap, count in (((1, 3, 2, 7, 4, 9), 3), ((5, 5, 5), 2), ((0, 1, 2, 3), 1), ((0, 0, 4, 4, 4), 3)):
            good = fewest_places(heap, count)
            many = len(heap)
            show = lambda places, rows: Least(places, rows).shows(heap, count)
            self.assertIs(show(good.places, good.rows), True)
            self.assertIs(show(good.places, {key: list(good.rows[key]) for key in reversed(list(good.rows))}), True)
            for places in sets_of(many):
                expected = len(places) == len(good.places) and does_settle(heap, count, places)
                self.assertIs(show(places, good.rows), expected)
                if places not in good.rows:
                    self.assertIs(show(good.places, {**good.rows, places: next(iter(good.rows.values()))}), False)
            for key in good.rows:
                self.assertIs(show(good.places, {other: good.rows[other] for other in good.rows if other != key}), False)
                for row in (heap, (), heap[:-1], (9,) * many, tuple(range(many)), heap + (9,), (-1,) * many,
                            (10 ** 30,) * many, good.rows[key][:-1] + (GREATEST + 1,)):
                    expected = is_other(row, heap, count, key, 2)
                    self.assertIs(show(good.places, {**good.rows, key: row}), expected)
                for wrong in (key[::-1] + (0,), key + (many,), tuple(bool(at) for at in key), (-1,) + key[1:]):
                    rest = {other: good.rows[other] for other in good.rows if other != key}
                    if wrong != ():
                        self.assertIs(show(good.places, {**rest, wrong: good.rows[key]}), False)
            for wrong in (good.places[::-1] + (0,), good.places + (many,), (True,) + good.places[1:], (-1,),
                          good.places[:-1] + (10 ** 30,)):
                self.assertIs(show(wrong, good.rows), False)

    def test_larger_sets_do_not_show(self):
        heap, count = (0, 1, 2, 3), 2
        size = len(fewest_places(heap, count).places)
        for larger in range(size + 1, 5):
            rows = {places: judge_places(heap, count, places) for places in itertools.combinations(range(4), larger - 1)}
            rows = {places: getattr(found, "row", heap) for places, found in rows.items()}
            for places in itertools.combinations(range(4), larger):
                self.assertIs(Least(places, rows).shows(heap, count), False)

    def test_no_places(self):
        for arms in ALL_ARMS:
            for heap in ((), (5,), (1, 2, 3)):
                check_values(self, vars(fewest_places(heap, 0, arms=arms)), {"places": (), "rows": {}})
                self.assertIs(Least((), {}).shows(heap, 0, arms=arms), True)
                self.assertIs(Least((), {(): heap}).shows(heap, 0, arms=arms), False)
            self.assertIs(Least((), {}).shows((5,), 1, arms=arms), False)
            self.assertIs(Least((0,), {(): (6,)}).shows((5,), 1, arms=arms), True)

    def test_at_most_eight_places(self):
        draw = random.Random(6)
        for arms in ALL_ARMS:
            for heap in (tuple(range(8)), (3,) * 8, drawn_heap(draw, 8, arms), drawn_heap(draw, 8, arms)):
                for count in range(9):
                    found = check_time(self, fewest_places, heap, count, arms=arms)
                    self.assertIs(check_time(self, found.shows, heap, count, arms=arms), True)
            for many in range(9, 13):
                for work in (fewest_places, Least((), {}).shows):
                    for count in (0, 1, many):
                        check_raises(self, TooLarge, work, [4] * many, count, arms=arms)
                    for count in bad_integers(0, many):
                        check_raises(self, BadNumber, work, [4] * many, count, arms=arms)

    def test_current_attributes(self):
        found = fewest_places((1, 2), 1)
        found.places = (1,)
        self.assertIs(found.shows((1, 2), 1), False)
        found.places = (0,)
        self.assertIs(found.shows((1, 2), 1), True)
        found.rows.clear()
        self.assertIs(found.shows((1, 2), 1), False)

    def test_attributes_and_equality(self):
        places, row, rows = [0], [1, 2], {}
        rows[()] = row
        found = Least(places, rows)
        places.clear()
        row.clear()
        rows.clear()
        check_values(self, vars(found), {"places": (0,), "rows": {(): (1, 2)}})
        check_values(self, vars(Least(rows={}, places=[])), {"places": (), "rows": {}})
        check_equality(self, Least, ((0,), {(): (1, 2)}), [((1,), {(): (1, 2)}), ((0,), {}), ((0,), {(): (1, 3)})],
                       Settled((0,)), Front((0,), ()))


class FrontErrorsTest(unittest.TestCase):
    def bad_sets(self):
        """Values that are no ascending tuples of some of six places."""
        wrong = [thing for thing in not_integers() if thing not in ((), (1,)) or type(thing) is not tuple]
        return wrong + [0, 1, [0], [0, 1], (1, 0), (0, 0), (0, 2, 1), (6,), (-1,), (0, 6), (-1, 0), (True,), (False,),
                        (0, True), (False, 1), (10 ** 30,), (-10 ** 30,), (10 ** 5000,), (None,), ("0",), ((0,),),
                        (0, [1]), "", "01", b"\x00", {0: 1}, {0}, range(1), tuple(range(7)), (0,) * 13]

    def test_order_of_errors(self):
        rows = [(BadArms, "arms", bad_arms()), (BadRow, "row", bad_row_values()),
                (NotHeap, "row", [(1, 0, 2), [0, 2, 1, 1], tuple(range(12))[::-1]])]
        numbers = rows + [(BadNumber, "count", bad_integers(0, 6) + [10 ** 5000])]
        good = {"row": (1, 3, 2, 7, 4, 9), "count": 6}
        for work in (front, least_keys, fewest_places, Least((), {}).shows):
            check_error_order(self, work, good, numbers)
        sets = numbers + [(BadSet, "places", self.bad_sets())]
        for work in (judge_places, does_settle, Settled([]).shows, Unsettled(()).shows):
            check_error_order(self, work, {**good, "places": (0, 5)}, sets)
            for places in sets_of(6):
                work((1, 3, 2, 7, 4, 9), 3, places)
            check_raises(self, BadSet, work, (), 0, (0,))
            check_raises(self, BadNumber, work, (), 1, (0,))
        for work, rest in ((front, (0,)), (least_keys, (0,)), (judge_places, (0, ())), (does_settle, (0, ())),
                           (Settled([]).shows, (0, ())), (Unsettled(()).shows, (0, ()))):
            check_heap_errors(self, work, *rest)
        for work in (fewest_places, Least((), {}).shows):
            check_row_errors(self, work, 0)
            check_row_errors(self, work, None)
        check_values(self, check_raises(self, NotHeap, fewest_places, tuple(range(12))[::-1], 99).place, 1)

    def test_bad_arms(self):
        calls = [(front, ((1, 2), 1)), (least_keys, ((1, 2), 1)), (judge_places, ((1, 2), 1, ())),
                 (does_settle, ((1, 2), 1, ())), (fewest_places, ((1, 2), 1)), (Settled([]).shows, ((1, 2), 1, ())),
                 (Unsettled(()).shows, ((1, 2), 1, ())), (Least((), {}).shows, ((1, 2), 1))]
        for work, args in calls:
            check_arms_errors(self, work, *args, worse=[(None,) * len(args), ((2, 1),) + (9,) * (len(args) - 1)])
            self.assertRaises(TypeError, work, *args, 2)

    def test_arguments_are_left_alone(self):
        row = [1, 3, 2]
        first = least_keys(row, 2)
        first.clear()
        self.assertEqual(least_keys(row, 2), [1, 2])
        judge_places(row, 2, (0, 1, 2)).least.clear()
        self.assertEqual(judge_places(row, 2, (0, 1, 2)).least, [1, 2])
        fewest_places(row, 2).rows.clear()
        self.assertIs(fewest_places(row, 2).shows(row, 2), True)
        front(row, 2)
        self.assertEqual(row, [1, 3, 2])


if __name__ == "__main__":
    unittest.main()

"""Promise 15: ways, runs, replacement, Cuts and Needs."""

import itertools
import random
import unittest

from heaprows.errors import BadMany, BadNumber, BadOrder, BadRoom, BadRow, SameKeys
from heaprows.runs import Cuts, Needs, by_replacement, fewest_runs, judge_runs, least_room, many_of_one, runs_of
from helpers import (
    GREATEST, bad_integers, bad_row_values, check_equality, check_error_order, check_example, check_raises,
    check_row_errors, check_time, check_values, not_integers)

EXAMPLE = """
>>> from heaprows.runs import Cuts, Needs, by_replacement, fewest_runs, judge_runs, least_room, many_of_one, runs_of
>>> given = (4, 7, 1, 8, 2, 3)
>>> [by_replacement(2, given), fewest_runs(1, given), judge_runs(2, given, 1).shows(2, given, 1), [least_room(given, number) for number in (0, 1, 2)], many_of_one(4, 2), runs_of(2, given, (7, 4, 1, 8, 2, 3)), Needs({4: 1, 7: 1, 1: 2, 8: 1, 2: 2, 3: 2}).shows(2, given, 1)]
[[(4, 7, 8), (1, 2, 3)], 3, True, [None, 4, 2], 8, [(7,), (4,), (1, 8), (2, 3)], True]
"""

ROOMS = range(1, 13)


def bad_rooms():
    return not_integers() + [0, 13, -1, 10 ** 30, -10 ** 30, 10 ** 5000]


def bad_numbers():
    return not_integers() + [-1, -2, -10 ** 30, -10 ** 5000]


def same_rows():
    return [(1, 1), [2, 1, 2], (5,) * 12, (0, 1, 2, 0, 1)]


def drawn_input(draw, many):
    if draw.random() < 0.3:
        ends = [GREATEST, -GREATEST, GREATEST - 1, -GREATEST + 1] + list(range(20))
        return draw.sample(ends, many)
    return draw.sample(range(-50, 50), many)


def ways_of(room, left, held=()):
    """All ways, found by writing each held key."""
    left, held = list(left), list(held)
    while left and len(held) < room:
        held.append(left.pop(0))
    if not held:
        return [()]
    return [(key,) + rest for key in held for rest in ways_of(room, left, [other for other in held if other != key])]


def replaced(room, keys):
    left, held, written = list(keys), [], []
    while left or held:
        while left and len(held) < room:
            held.append(left.pop(0))
        greater = [key for key in held if written and key > written[-1]]
        written.append(min(greater) if greater else min(held))
        held.remove(written[-1])
    return tuple(written)


def cut(written):
    """The runs, by the places at which a key is less than the one before it."""
    ends = [at for at in range(1, len(written)) if written[at] < written[at - 1]]
    borders = [0] + ends + [len(written)]
    return [tuple(written[one:other]) for one, other in zip(borders, borders[1:]) if one < other]


def is_needs(levels, room, row, number):
    if sorted(levels) != sorted(row) or any(level < 1 for level in levels.values()):
        return False
    if not any(level > number for level in levels.values()):
        return False
    for at, key in enumerate(row):
        if levels[key] > 1:
            enough = [other for other in row[:at] if levels[other] >= levels[key]
                      or (levels[other] == levels[key] - 1 and other > key)]
            if len(enough) < room:
                return False
    return True


class RunsTest(unittest.TestCase):
    def test_example(self):
        check_example(self, EXAMPLE)

    def test_all_ways_of_up_to_six_keys(self):
        draw = random.Random(1)
        for many in range(7):
            orders = list(itertools.permutations(range(many)))
            orders = orders if many < 5 else draw.sample(orders, {5: 60, 6: 40}[many])
            for order in orders:
                names = sorted(drawn_input(draw, many))
                row = tuple(names[item] for item in order)
                fewest = {}
                for room in range(1, 8):
                    ways = ways_of(room, row)
                    fewest[room] = min(len(cut(way)) for way in ways)
                    check_values(self, by_replacement(room, row), cut(replaced(room, row)))
                    self.assertIn(replaced(room, row), ways)
                    check_values(self, fewest_runs(room, row), fewest[room])
                    for number in range(many + 2):
                        found = judge_runs(room, row, number)
                        self.assertIs(type(found), Cuts if fewest[room] <= number else Needs)
                        self.check_judged(found, room, row, number)
                for number in range(many + 2):
                    expected = [room for room in fewest if fewest[room] <= number]
                    check_values(self, least_room(row, number), min(expected) if expected else None)

    def check_judged(self, found, room, row, number):
        self.assertIs(found.shows(room, list(row), number), True)
        if type(found) is Cuts:
            self.assertIs(type(found.written), tuple)
            self.assertLessEqual(len(cut(found.written)), number)
            self.assertEqual(sorted(found.written), sorted(row))
            runs_of(room, row, found.written)
        else:
            self.assertIs(type(found), Needs)
            self.assertTrue(is_needs(found.levels, room, row, number))

    def test_all_tuples_of_the_keys(self):
        for row in ((), (3,), (2, 1), (2, 5, 1), (3, 1, 4, 2), (5, -GREATEST, 7, GREATEST)):
            for room in (1, 2, 3, 4, 12):
                ways = ways_of(room, row)
                self.assertEqual(len(ways), len(set(ways)))
                for size in range(len(row) + 2):
                    for written in itertools.product(row, repeat=size):
                        if written in ways:
                            check_values(self, runs_of(room, row, written), cut(written))
                            check_values(self, runs_of(room, list(row), list(written)), cut(written))
                        else:
                            check_raises(self, BadOrder, runs_of, room, row, written)

    def test_five_and_six_keys(self):
        draw = random.Random(2)
        for many in (5, 6):
            for room in range(1, 7):
                row = tuple(draw.sample(range(20), many))
                ways = set(ways_of(room, row))
                for written in itertools.permutations(row):
                    if written in ways:
                        self.assertEqual(runs_of(room, row, written), cut(written))
                    else:
                        check_raises(self, BadOrder, runs_of, room, row, written)

    def test_twelve_keys(self):
        draw = random.Random(3)
        kinds = set()
        for many in range(6, 13):
            for room in ROOMS:
                for _ in range(6):
                    row = tuple(drawn_input(draw, many))
                    runs = check_time(self, by_replacement, room, row)
                    check_values(self, runs, cut(replaced(room, row)))
                    check_values(self, fewest_runs(room, row), len(runs))
                    for number in (0, 1, 2, 3, len(runs) - 1, len(runs), 12, 10 ** 30, 10 ** 5000):
                        found = check_time(self, judge_runs, room, row, number)
                        self.check_judged(found, room, row, number)
                        self.assertIs(type(found), Cuts if len(runs) <= number else Needs)
                        kinds.add((many, room, type(found)))
                        if type(found) is Needs:
                            self.check_no_earlier(found.levels, room, row, draw)
        self.assertLessEqual({(12, room, kind) for room in ROOMS for kind in (Cuts, Needs)}, kinds)

    def check_no_earlier(self, levels, room, row, draw):
        """No key is written in an earlier run than its level, in drawn ways."""
        for _ in range(5):
            left, held, written = list(row), [], []
            while left or held:
                while left and len(held) < room:
                    held.append(left.pop(0))
                written.append(held.pop(draw.randrange(len(held))))
            for at, run in enumerate(runs_of(room, row, written)):
                self.assertTrue(all(at + 1 >= levels[key] for key in run))

    def test_the_room_that_is_needed(self):
        draw = random.Random(4)
        for many in range(13):
            for _ in range(10):
                row = drawn_input(draw, many)
                for number in range(many + 2):
                    rooms = [room for room in ROOMS if fewest_runs(room, row) <= number]
                    check_values(self, check_time(self, least_room, row, number), min(rooms) if rooms else None)
        check_values(self, [least_room((), 0), least_room((5,), 0), least_room([5], 1), least_room((2, 1), 10 ** 5000)],
                     [1, None, 1, 1])
        check_values(self, [least_room(tuple(range(12))[::-1], number) for number in (1, 2, 3, 6, 11, 12)],
                     [12, 6, 4, 2, 2, 1])

    def test_without_keys(self):
        for room in ROOMS:
            check_values(self, [by_replacement(room, ()), fewest_runs(room, []), runs_of(room, (), [])], [[], 0, []])
            check_values(self, judge_runs(room, (), 0).written, ())
            self.assertIs(judge_runs(room, (), 0).shows(room, (), 0), True)
            self.assertIs(Needs({}).shows(room, (), 0), False)
            check_raises(self, BadOrder, runs_of, room, (), (1,))
            check_raises(self, BadOrder, runs_of, room, (1,), ())

    def test_many_of_one(self):
        for many in range(7):
            orders = list(itertools.permutations(range(many)))
            for room in ROOMS:
                expected = len([order for order in orders if len(cut(replaced(room, order))) <= 1])
                check_values(self, many_of_one(many, room), expected)
        for room in ROOMS:
            expected = 1
            for many in range(1, 13):
                expected = expected * min(many, room)
                check_values(self, check_time(self, many_of_one, many, room), expected)
        check_values(self, [many_of_one(0, 5), many_of_one(room=12, many=12)], [1, 479001600])

    def test_by_keyword(self):
        row = (4, 7, 1)
        check_values(self, by_replacement(row=row, room=2), [(4, 7), (1,)])
        check_values(self, fewest_runs(row=row, room=2), 2)
        check_values(self, runs_of(written=row, row=row, room=1), [(4, 7), (1,)])
        check_values(self, least_room(number=1, row=row), 3)
        self.assertIs(judge_runs(number=1, row=row, room=2).shows(number=1, row=row, room=2), True)


class ShowsTest(unittest.TestCase):
    def test_all_cuts(self):
        for row in ((), (3,), (2, 1), (2, 5, 1), (3, 1, 4, 2)):
            for room in (1, 2, 3, 4, 12):
                ways = set(ways_of(room, row))
                for size in range(len(row) + 2):
                    for written in itertools.product(row + (9,), repeat=size):
                        for number in (0, 1, 2, 3, 10 ** 30):
                            expected = written in ways and len(cut(written)) <= number
                            self.assertIs(Cuts(written).shows(room, row, number), expected)
                            self.assertIs(Cuts(list(written)).shows(room, list(row), number), expected)

    def test_all_needs(self):
        for row in ((), (3,), (2, 1), (2, 5, 1), (3, 1, 4, 2), (4, 3, 2, 1)):
            for room in (1, 2, 3):
                for levels in itertools.product(range(6), repeat=len(row)):
                    told = dict(zip(row, levels))
                    for number in (0, 1, 2, 3, 4):
                        self.assertIs(Needs(told).shows(room, row, number), is_needs(told, room, row, number))

    def test_changed_needs(self):
        draw = random.Random(5)
        shown = 0
        for _ in range(150):
            many, room = draw.randint(4, 12), draw.randint(1, 4)
            row = tuple(drawn_input(draw, many))
            number = fewest_runs(room, row) - 1
            levels = judge_runs(room, row, number).levels
            others = [levels, dict(sorted(levels.items())), {}, {**levels, 77: 1}, {**levels, 77: 9}]
            for key in row:
                others.append({other: levels[other] for other in levels if other != key})
                others += [{**levels, key: levels[key] + more} for more in (-1, 1, 2, 10 ** 30)]
                others += [{**levels, key: level} for level in (-1, 0, 1, 2)]
                for other in row:
                    others.append({**levels, key: levels[other], other: levels[key]})
            for changed in others:
                for limit in (number, number - 1, number + 1, 0):
                    if limit >= 0:
                        expected = is_needs(changed, room, row, limit)
                        self.assertIs(Needs(changed).shows(room, row, limit), expected)
                        shown += expected
        self.assertGreater(shown, 150)

    def test_changed_cuts(self):
        draw = random.Random(6)
        for _ in range(100):
            many, room = draw.randint(4, 12), draw.randint(1, 5)
            row = tuple(drawn_input(draw, many))
            number = fewest_runs(room, row)
            written = judge_runs(room, row, number).written
            self.assertIs(Cuts(written).shows(room, row, number - 1), False)
            for at in range(many):
                self.assertIs(Cuts(written[:at] + written[at + 1:]).shows(room, row, number), False)
                self.assertIs(Cuts(written[:at] + (99,) + written[at + 1:]).shows(room, row, number), False)
                self.assertIs(Cuts(written[:at] + written[at:at + 1] + written[at:]).shows(room, row, number), False)
                other = draw.randrange(many)
                changed = list(written)
                changed[at], changed[other] = written[other], written[at]
                expected = self.is_way(changed, room, row) and len(cut(changed)) <= number
                self.assertIs(Cuts(changed).shows(room, row, number), expected)

    def is_way(self, written, room, row):
        """A key that is written as the k-th one is among the first room + k keys of the input."""
        return sorted(written) == sorted(row) and all(key in row[:room + at] for at, key in enumerate(written))

    def test_booleans_and_great_numbers(self):
        self.assertIs(Cuts((0, 1)).shows(1, (0, 1), 1), True)
        for wrong in ((False, 1), (0, True), (None, 1), ("0", 1), (0, 10 ** 5000)):
            self.assertIs(Cuts(wrong).shows(1, (0, 1), 1), False)
        self.assertIs(Needs({0: 1, 1: 1}).shows(1, (0, 1), 0), True)
        for wrong in ({False: 1, 1: 1}, {0: 1, True: 1}, {0: True, 1: 1}, {0: 1, 1: None}, {0: 1, 10 ** 5000: 1},
                      {0: -10 ** 5000, 1: 1}):
            self.assertIs(Needs(wrong).shows(1, (0, 1), 0), False)
        self.assertIs(Needs({0: 1, 1: 1}).shows(1, (0, 1), 10 ** 5000), False)

    def test_current_attributes(self):
        cuts, needs = Cuts((1, 2)), Needs({2: 1, 1: 2})
        self.assertEqual([cuts.shows(1, (1, 2), 1), needs.shows(1, (2, 1), 1)], [True, True])
        cuts.written, needs.levels[1] = [2, 1], 1
        self.assertEqual([cuts.shows(1, (1, 2), 1), needs.shows(1, (2, 1), 1)], [False, False])
        cuts.written, needs.levels = [1, 2], {1: 2, 2: 1}
        self.assertEqual([cuts.shows(1, (1, 2), 1), needs.shows(1, (2, 1), 1)], [True, True])

    def test_attributes_and_equality(self):
        written, levels = [1, 2], {1: 1, 2: 3}
        cuts, needs = Cuts(written), Needs(levels)
        written.clear()
        levels.clear()
        check_values(self, [vars(cuts), vars(needs)], [{"written": (1, 2)}, {"levels": {1: 1, 2: 3}}])
        check_values(self, [vars(Cuts(written=[])), vars(Needs(levels={}))], [{"written": ()}, {"levels": {}}])
        check_equality(self, Cuts, ((1, 2),), [((2, 1),), ((1,),)], Needs({1: 2}))
        check_equality(self, Needs, ({1: 2},), [({1: 1},), ({},), ({1: 2, 2: 1},)], Cuts((1, 2)))
        self.assertEqual(Needs({1: 2, 3: 4}), Needs({3: 4, 1: 2}))


class RunsErrorsTest(unittest.TestCase):
    def test_order_of_errors(self):
        given = [(BadRoom, "room", bad_rooms()), (BadRow, "row", bad_row_values()), (SameKeys, "row", same_rows())]
        good = {"room": 2, "row": (4, 7, 1)}
        check_error_order(self, by_replacement, good, given)
        check_error_order(self, fewest_runs, good, given)
        wrong = [thing for thing in not_integers() if not isinstance(thing, (list, tuple))]
        wrong += [(), [], (4, 7), (4, 7, 1, 1), (1, 4, 7), (4, 4, 1), (4, 7, True), (4, 7, None), (4, 7, 10 ** 5000),
                  "471", {4: 1, 7: 1, 1: 1}, {4, 7, 1}, b"\x04\x07\x01", range(3), (4, 7, (1,)), (4,) * 13]
        check_error_order(self, runs_of, {**good, "written": [7, 4, 1]}, given + [(BadOrder, "written", wrong)])
        numbers = [(BadNumber, "number", bad_numbers())]
        for work in (judge_runs, Cuts((4, 7, 1)).shows, Needs({}).shows):
            check_error_order(self, work, {**good, "number": 0}, given + numbers)
            work(**good, number=10 ** 5000)
        check_error_order(self, least_room, {"row": [4, 7, 1], "number": 0}, given[1:] + numbers)
        check_error_order(self, many_of_one, {"many": 12, "room": 12},
                          [(BadMany, "many", bad_integers(0, 12) + [10 ** 5000]), (BadRoom, "room", bad_rooms())])

    def test_rows(self):
        for work in (lambda row: by_replacement(2, row), lambda row: fewest_runs(2, row),
                     lambda row: runs_of(2, row, ()), lambda row: judge_runs(2, row, 1),
                     lambda row: least_room(row, 1), lambda row: Cuts(()).shows(2, row, 1),
                     lambda row: Needs({}).shows(2, row, 1)):
            check_row_errors(self, work)
            for row, place in (((1, 1), 1), ([2, 1, 2], 2), ((5,) * 12, 1), ((0, 1, 2, 0, 1), 3), ((3, 4, 5, 4), 3)):
                check_values(self, check_raises(self, SameKeys, work, row).place, place)

    def test_arguments_are_left_alone(self):
        row, written = [4, 7, 1, 8], [7, 4, 1, 8]
        judge_runs(2, row, 1).shows(2, row, 1)
        runs = runs_of(2, row, written)
        runs.clear()
        by_replacement(2, row).clear()
        least_room(row, 1)
        self.assertEqual((row, written), ([4, 7, 1, 8], [7, 4, 1, 8]))
        self.assertEqual(runs_of(2, row, written), [(7,), (4,), (1, 8)])
        first = judge_runs(2, row, 1)
        first.levels.clear()
        self.assertIs(judge_runs(2, row, 1).shows(2, row, 1), True)


if __name__ == "__main__":
    unittest.main()

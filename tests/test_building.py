import collections
import itertools
import math
import random
import unittest

from heaprows.building import (Hardest, by_changes, by_looks, code, decode, hardest, how_many_rows, rows_of,
                               stops_at)
from heaprows.errors import BadArms, BadIndex, BadMany, BadRow, BadStops, NotHeap, SameKeys, TooLarge
from helpers import (ALL_ARMS, GREATEST, bad_arms, bad_integers, bad_row_values, check_arms_errors, check_equality,
                     check_error_order, check_example, check_heap_errors, check_raises, check_row_errors,
                     check_same_keys, check_time, check_values, children, full_heaps, not_integers, sample_rows,
                     step_down, subtree)

EXAMPLE = """
>>> from heaprows.building import by_changes, by_looks, code, decode, hardest, how_many_rows, stops_at
>>> [code([4, 3, 2, 1]), decode((1, 3, 2, 4), [(1, 3), (0, 3)]), how_many_rows(4), stops_at(4, 5), by_changes(4), \
by_looks(4), hardest(4).looks]
[((1, 3, 2, 4), ((1, 3), (0, 3))), (4, 3, 2, 1), 8, ((1, 3), (0, 1)), [3, 9, 9, 3], [0, 0, 0, 12, 12], 4]
"""
SMALL_BUILDS = 7


def with_children(many, arms):
    """The places with children, from the last one on."""
    return [place for place in range(many - 1, -1, -1) if children(place, many, arms)]


def built(row, arms):
    """The heap, the stops, the changes and the looks of a row that is built, worked out step by step."""
    row, stops, changes, looks = tuple(row), [], 0, 0
    for place in with_children(len(row), arms):
        row, way, more = step_down(row, place, arms)
        stops.append((place, way[-1]))
        changes += len(way) - 1
        looks += more
    return row, tuple(stops), changes, looks


def all_stops(many, arms):
    """All stops, in order."""
    choices = [[(place, stop) for stop in subtree(place, many, arms)] for place in with_children(many, arms)]
    return list(itertools.product(*choices))


def drawn_stops(many, arms, draw):
    return tuple((place, draw.choice(subtree(place, many, arms))) for place in with_children(many, arms))


def drawn_keys(many, draw):
    return draw.sample(range(-9, 30), many)


class CodeTest(unittest.TestCase):
    def test_example(self):
        check_example(self, EXAMPLE)

    def test_all_rows(self):
        for arms in ALL_ARMS:
            for many in range(6):
                for row in itertools.permutations(range(many)):
                    for given in (row, list(row)):
                        found = code(given, arms=arms)
                        check_values(self, found, built(row, arms)[:2])
                        check_values(self, decode(*found, arms=arms), row)
            for many in range(6):
                for heap in full_heaps(many, arms):
                    for stops in all_stops(many, arms):
                        for given in (stops, list(stops)):
                            row = decode(heap, given, arms=arms)
                            self.assertIs(type(row), tuple)
                            check_values(self, code(row, arms=arms), (heap, stops))
                        check_values(self, decode(list(heap), stops, arms=arms), row)

    def test_drawn_rows(self):
        draw = random.Random(1)
        for arms in ALL_ARMS:
            for many in range(13):
                for _ in range(20):
                    row = tuple(drawn_keys(many, draw))
                    heap, stops = code(row, arms=arms)
                    self.assertEqual((heap, stops), built(row, arms)[:2])
                    self.assertEqual(decode(heap, stops, arms=arms), row)
                    stops = drawn_stops(many, arms, draw)
                    self.assertEqual(code(decode(heap, stops, arms=arms), arms=arms), (heap, stops))

    def test_two_arms_by_default(self):
        row = (5, 2, 8, 1, 9, 0)
        self.assertEqual(code(row), code(row, arms=2))
        self.assertEqual(decode(*code(row)), row)
        heap = code(row)[0]
        self.assertEqual([rows_of(heap), how_many_rows(6), stops_at(6, 7), by_changes(6), by_looks(6), hardest(6)],
                         [rows_of(heap, arms=2), how_many_rows(6, arms=2), stops_at(6, 7, arms=2),
                          by_changes(6, arms=2), by_looks(6, arms=2), hardest(6, arms=2)])
        self.assertIs(hardest(6).shows(6), True)

    def test_few_keys(self):
        for arms in ALL_ARMS:
            for row in ([], (), [7], (-GREATEST,)):
                check_values(self, code(row, arms=arms), (tuple(row), ()))
                for stops in ((), []):
                    check_values(self, decode(row, stops, arms=arms), tuple(row))
            check_values(self, code((GREATEST, -GREATEST), arms=arms), ((-GREATEST, GREATEST), ((0, 1),)))


class RowsOfTest(unittest.TestCase):
    def test_all_rows(self):
        for arms in ALL_ARMS:
            for many in range(7):
                rows = collections.defaultdict(dict)
                for row in itertools.permutations(range(many)):
                    heap, stops = built(row, arms)[:2]
                    rows[heap][stops] = row
                self.assertEqual(sorted(rows), list(full_heaps(many, arms)))
                for heap, by_stops in rows.items():
                    expected = [by_stops[stops] for stops in sorted(by_stops)]
                    check_values(self, rows_of(heap, arms=arms), expected)
                    check_values(self, how_many_rows(many, arms=arms), len(expected))

    def test_rows_of_all_heaps_are_all_orders(self):
        for arms in ALL_ARMS:
            found = [row for heap in full_heaps(7, arms) for row in rows_of(heap, arms=arms)]
            self.assertEqual(sorted(found), list(itertools.permutations(range(7))))

    def test_how_many_rows(self):
        for arms in ALL_ARMS:
            for many in range(13):
                sizes = [len(subtree(place, many, arms)) for place in range(many)]
                check_values(self, how_many_rows(many, arms=arms), math.prod(sizes))
        self.assertEqual([how_many_rows(12, arms=1), how_many_rows(0), how_many_rows(1)], [math.factorial(12), 1, 1])

    def test_stops_at(self):
        for arms in ALL_ARMS:
            for many in range(7):
                for index, stops in enumerate(all_stops(many, arms)):
                    check_values(self, stops_at(many, index, arms=arms), stops)
            heap = full_heaps(6, arms)[-1]
            rows = [decode(heap, stops_at(6, index, arms=arms), arms=arms) for index in range(len(all_stops(6, arms)))]
            self.assertEqual(rows, rows_of(heap, arms=arms))

    def test_stops_of_twelve(self):
        for arms in ALL_ARMS:
            number = how_many_rows(12, arms=arms)
            near = [0, 1, 2, number // 3, number // 2, number - 2, number - 1]
            found = [check_time(self, stops_at, 12, index, arms=arms) for index in near]
            self.assertEqual(found, sorted(found))
            self.assertEqual(found[0], tuple((place, place) for place in with_children(12, arms)))
            self.assertEqual(found[-1], tuple((place, subtree(place, 12, arms)[-1])
                                              for place in with_children(12, arms)))
            self.assertEqual(found[1][:-1] + (found[1][-1][1],), found[0][:-1] + (1,))
            for stops in found:
                # The index is the number that the stops write, with the last one as the lowest digit.
                index = 0
                for place, stop in stops:
                    index = index * len(subtree(place, 12, arms)) + subtree(place, 12, arms).index(stop)
                self.assertEqual(stops_at(12, index, arms=arms), stops)
                self.assertIn(index, near)

    def test_lists_are_new(self):
        heap = (0, 1, 2, 3)
        for work, given in ((rows_of, heap), (by_changes, 4), (by_looks, 4), (rows_of, ()), (by_changes, 0)):
            first = work(given)
            kept = list(first)
            first.clear()
            first.append(7)
            self.assertEqual(work(given), kept)

    def test_limits(self):
        for arms in ALL_ARMS:
            heap = tuple(range(7))
            rows = check_time(self, rows_of, heap, arms=arms)
            self.assertEqual(len(set(rows)), how_many_rows(7, arms=arms))
            self.assertEqual(len(rows_of(full_heaps(7, arms)[-1], arms=arms)), len(rows))
            for many in range(8, 13):
                check_raises(self, TooLarge, rows_of, tuple(range(many)), arms=arms)
            for work in (by_changes, by_looks, hardest, how_many_rows):
                check_time(self, work, 12, arms=arms)
            row = check_time(self, decode, list(range(12)), stops_at(12, 17, arms=arms), arms=arms)
            self.assertEqual(check_time(self, code, row, arms=arms), (tuple(range(12)), stops_at(12, 17, arms=arms)))


class NumbersTest(unittest.TestCase):
    def test_all_rows(self):
        for arms in ALL_ARMS:
            for many in range(SMALL_BUILDS + 1):
                changes, looks = collections.Counter(), collections.Counter()
                for row in itertools.permutations(range(many)):
                    _, _, more, seen = built(row, arms)
                    changes[more] += 1
                    looks[seen] += 1
                for work, numbers in ((by_changes, changes), (by_looks, looks)):
                    expected = [numbers[at] for at in range(max(numbers) + 1)]
                    check_values(self, work(many, arms=arms), expected)
                self.check_hardest(many, arms, max(looks))

    def check_hardest(self, many, arms, most):
        found = hardest(many, arms=arms)
        self.assertIs(type(found), Hardest)
        self.assertIs(type(found.row), tuple)
        self.assertEqual((len(found.row), len(set(found.row))), (many, many))
        self.assertEqual((built(found.row, arms)[3], found.looks, sum(found.shares.values())), (most,) * 3)
        self.assertEqual(sorted(found.shares), sorted(with_children(many, arms)))
        self.assertIs(found.shows(many, arms=arms), True)

    def test_shares(self):
        for arms in ALL_ARMS:
            for many in range(13):
                shares = {}
                for place in with_children(many, arms):
                    looks = {place: len(children(place, many, arms))}
                    for below in subtree(place, many, arms)[1:]:
                        looks[below] = looks[(below - 1) // arms] + len(children(below, many, arms))
                    shares[place] = max(looks.values())
                self.assertEqual(hardest(many, arms=arms).shares, shares)
                self.check_hardest(many, arms, sum(shares.values()))

    def test_sums(self):
        for arms in ALL_ARMS:
            for many in range(13):
                for work in (by_changes, by_looks):
                    numbers = work(many, arms=arms)
                    self.assertEqual(sum(numbers), math.factorial(many))
                    self.assertGreater(numbers[-1], 0)
                    self.assertTrue(all(type(number) is int and number >= 0 for number in numbers))
                self.assertEqual(len(by_looks(many, arms=arms)), hardest(many, arms=arms).looks + 1)
                heights = sum(max(steps(place, below, arms) for below in subtree(place, many, arms))
                              for place in range(many))
                self.assertEqual(len(by_changes(many, arms=arms)), heights + 1)

    def test_few_keys(self):
        for arms in ALL_ARMS:
            for many in (0, 1):
                check_values(self, [by_changes(many, arms=arms), by_looks(many, arms=arms)], [[1], [1]])
                check_values(self, vars(hardest(many, arms=arms))["shares"], {})
            check_values(self, [by_changes(2, arms=arms), by_looks(2, arms=arms)], [[1, 1], [0, 2]])
            self.assertEqual((hardest(2, arms=arms).looks, hardest(2, arms=arms).shares), (1, {0: 1}))


def steps(place, below, arms):
    """How many places a key goes down from a place to one below it."""
    count = 0
    while below != place:
        below = (below - 1) // arms
        count += 1
    return count


class HardestTest(unittest.TestCase):
    def test_other_rows(self):
        for arms in ALL_ARMS:
            for many in range(6):
                found = hardest(many, arms=arms)
                for row in itertools.permutations(range(many)):
                    shown = Hardest(row, found.looks, found.shares).shows(many, arms=arms)
                    self.assertIs(shown, built(row, arms)[3] == found.looks)
                    wide = [key * 10 ** 8 - 3 for key in row]
                    self.assertIs(Hardest(wide, found.looks, found.shares).shows(many, arms=arms), shown)

    def test_rows_of_other_keys(self):
        for arms in ALL_ARMS:
            for many in range(1, 12):
                found = hardest(many, arms=arms)
                for row in (found.row + (many,), found.row[:-1], (), found.row[:-1] + found.row[:1],
                            (0,) * many, [5] * 12, found.row[::-1] + (-1,)):
                    expected = many == 1 and len(row) == 1
                    self.assertIs(Hardest(row, found.looks, found.shares).shows(many, arms=arms), expected)

    def test_other_numbers_and_shares(self):
        for arms in ALL_ARMS:
            for many in (0, 1, 2, 5, 9, 12):
                found = hardest(many, arms=arms)
                for looks in (found.looks - 1, found.looks + 1, -found.looks - 1, 10 ** 30):
                    self.assertIs(Hardest(found.row, looks, found.shares).shows(many, arms=arms), False)
                for place in range(-1, many + 1):
                    for share in (-1, 0, 1, 2, 10 ** 30):
                        shares = {**found.shares, place: share}
                        expected = found.shares.get(place) == share
                        self.assertIs(Hardest(found.row, found.looks, shares).shows(many, arms=arms), expected)
                        self.assertIs(Hardest(found.row, sum(shares.values()), shares).shows(many, arms=arms), expected)
                    if place in found.shares:
                        shares = {at: share for at, share in found.shares.items() if at != place}
                        self.assertIs(Hardest(found.row, found.looks, shares).shows(many, arms=arms), False)
                        self.assertIs(Hardest(found.row, sum(shares.values()), shares).shows(many, arms=arms), False)
                turned = dict(reversed(list(found.shares.items())))
                self.assertIs(Hardest(found.row, found.looks, turned).shows(many, arms=arms), True)

    def test_other_trees(self):
        found = hardest(6)
        self.assertEqual([many for many in range(13) if found.shows(many)], [6])
        self.assertEqual([arms for arms in ALL_ARMS if found.shows(6, arms=arms)], [2])

    def test_no_row_needs_more(self):
        for arms in ALL_ARMS:
            found = hardest(7, arms=arms)
            easy = tuple(range(7))
            looks = built(easy, arms)[3]
            self.assertLess(looks, found.looks)
            self.assertIs(Hardest(easy, looks, {0: looks}).shows(7, arms=arms), False)
            self.assertIs(Hardest(easy, looks, found.shares).shows(7, arms=arms), False)
            self.assertIs(Hardest(easy, found.looks, found.shares).shows(7, arms=arms), False)

    def test_attributes_and_equality(self):
        row, shares = [2, 1], {0: 1}
        made = Hardest(row, 1, shares)
        row.clear()
        shares[1] = 5
        check_values(self, vars(made), {"row": (2, 1), "looks": 1, "shares": {0: 1}})
        check_values(self, vars(Hardest(row=(), looks=0, shares={})), {"row": (), "looks": 0, "shares": {}})
        check_equality(self, Hardest, ((2, 1), 1, {0: 1}), [((3, 1), 1, {0: 1}), ((2, 1), 2, {0: 1}),
                                                            ((2, 1), 1, {0: 2}), ((2, 1), 1, {})])
        self.assertIs(Hardest((), 1, {0: 1, 1: 2}) == Hardest((), 1, {1: 2, 0: 1}), True)

    def test_dicts_are_new(self):
        first = hardest(6)
        kept = dict(first.shares)
        first.shares.clear()
        self.assertEqual(hardest(6).shares, kept)
        self.assertIs(first.shows(6), False)
        first.shares.update(kept)
        self.assertIs(first.shows(6), True)
        first.looks += 1
        self.assertIs(first.shows(6), False)


class BuildingErrorsTest(unittest.TestCase):
    not_heaps = [[2, 1], [1, 1, 0], [0, 1, 2, 0, 0], [5] * 8 + [4], list(range(12))[::-1]]
    same = [[0, 0], [0, 1, 1], (3, 4, 4, 4), [7] * 9, (0,) * 12]

    def test_rows(self):
        check_row_errors(self, code)
        check_row_errors(self, code, arms=3)
        for work, rest in ((decode, ([],)), (decode, (None,)), (rows_of, ())):
            check_heap_errors(self, work, *rest)
            check_same_keys(self, work, *rest)

    def test_same_keys(self):
        for row in sample_rows():
            if len(set(row)) < len(row):
                for arms in ALL_ARMS:
                    error = check_raises(self, SameKeys, code, list(row), arms=arms)
                    check_values(self, error.place, min(at for at in range(len(row)) if row[at] in row[:at]))

    def wrong_stops(self):
        """Pairs of a value that is no stops for five places with two arms and of the index that the error must have."""
        wrong = [(thing, None) for thing in not_integers() + [0, 2] if not isinstance(thing, (list, tuple))]
        wrong += [([], None), ((), None), ([(1, 1)], None), ([(1, 1), (0, 0), (0, 0)], None), ({1: 1, 0: 0}, None),
                  ([None] * 3, None), ((0, 0, 0), None)]
        for thing in not_integers():
            wrong += [([thing, (0, 0)], 0), (((1, 1), thing), 1), ([(1, 1), (0, thing)], 1), ([(thing, 1), thing], 0),
                      ([(1, thing), (0, 0)], 0), ([(1, 1), (thing, 0)], 1)]
        wrong += [([(1, 0), (0, 0)], 0), ([(1, 2), (0, 0)], 0), ([(1, 5), (0, 0)], 0), ([(1, -1), (0, 0)], 0),
                  ([(1, 1), (0, 5)], 1), ([(1, 1), (0, -1)], 1), ([(1, 1), (0, 10 ** 30)], 1), ([(0, 0), (1, 1)], 0),
                  ([(1, 1), (1, 1)], 1), ([(0, 0), (0, 0)], 0), ([(1, 3), [0, 3]], 1), ([[1, 3], (0, 3)], 0),
                  ([(1, 3, 3), (0, 0)], 0), ([(1,), (0, 0)], 0), ([(True, 1), (0, 0)], 0), ([(1, True), (0, 0)], 0),
                  ([(1, 1), (False, 0)], 1), ([(1, 1), (0, False)], 1), ([(1, 1), (0, True)], 1), (("13", "03"), 0),
                  ([(2, 2), (0, 0)], 0), ([(1, 1), (10 ** 30, 0)], 1), ((1, 1), 0), ([{1: 1, 3: 3}, (0, 0)], 0)]
        return wrong

    def test_bad_stops(self):
        for stops, index in self.wrong_stops():
            error = check_raises(self, BadStops, decode, (0, 1, 2, 3, 4), stops)
            self.assertIs(type(error.index), type(index), stops)
            self.assertEqual(error.index, index, stops)

    def test_stops_of_other_trees(self):
        for arms in ALL_ARMS:
            for other in ALL_ARMS:
                for many in range(13):
                    stops = tuple((place, place) for place in with_children(many, other))
                    if with_children(many, arms) == with_children(many, other):
                        self.assertEqual(len(decode(tuple(range(many)), stops, arms=arms)), many)
                    else:
                        check_raises(self, BadStops, decode, tuple(range(many)), stops, arms=arms)

    def test_bad_index(self):
        for arms in ALL_ARMS:
            for many in (0, 1, 2, 5, 12):
                for index in bad_integers(0, how_many_rows(many, arms=arms) - 1):
                    check_raises(self, BadIndex, stops_at, many, index, arms=arms)

    def test_order_of_errors(self):
        rows = [(BadArms, "arms", bad_arms()), (BadRow, "row", bad_row_values())]
        heaps = rows + [(NotHeap, "row", self.not_heaps), (SameKeys, "row", self.same)]
        stops = [thing for thing, _ in self.wrong_stops()]
        check_error_order(self, code, {"row": [3, 1, 2]}, rows + [(SameKeys, "row", self.same + [[2, 1, 2], [9, 9, 0]])])
        check_error_order(self, decode, {"row": [0, 1, 2, 3, 4], "stops": [(1, 3), (0, 2)]},
                          heaps + [(BadStops, "stops", stops)])
        large = [list(range(many)) for many in range(8, 13)]
        check_error_order(self, rows_of, {"row": [0, 1]}, heaps + [(TooLarge, "row", large)])
        many = [(BadArms, "arms", bad_arms()), (BadMany, "many", bad_integers(0, 12))]
        check_error_order(self, stops_at, {"many": 5, "index": 14}, many + [(BadIndex, "index", bad_integers(0, 14))])
        for work in (how_many_rows, by_changes, by_looks, hardest, Hardest((), 0, {}).shows):
            check_error_order(self, work, {"many": 4}, many)
            check_arms_errors(self, work, 12, worse=[(13,), (None,)])
        for work, args in ((code, ([1],)), (decode, ([1], [])), (rows_of, ([1],)), (stops_at, (1, 0)),
                           (how_many_rows, (1,)), (by_changes, (1,)), (by_looks, (1,)), (hardest, (1,)),
                           (Hardest((), 0, {}).shows, (1,))):
            work(*args)
            self.assertRaises(TypeError, work, *args, 2)

    def test_arguments_are_left_alone(self):
        row, stops = [0, 1, 2, 3, 4], [(1, 3), (0, 2)]
        found = [decode(row, stops), code(row), rows_of(row)]
        self.assertEqual((row, stops), ([0, 1, 2, 3, 4], [(1, 3), (0, 2)]))
        before = [found[0], found[1], list(found[2])]
        row.clear()
        stops.clear()
        self.assertEqual(found, before)
        self.assertEqual(found[0], decode((0, 1, 2, 3, 4), ((1, 3), (0, 2))))


if __name__ == "__main__":
    unittest.main()

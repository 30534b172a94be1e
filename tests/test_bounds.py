import itertools
import random
import unittest

from heaprows.bounds import Crowded, Fitted, can_fit, fit, how_many_fit, ranks_within, told_bounds
from heaprows.errors import BadArms, BadBounds, TooLarge
from helpers import (ALL_ARMS, bad_arms, check_arms_errors, check_equality, check_error_order, check_example,
                     check_raises, check_time, check_values, full_heaps, heap_like, not_integers, subtree, up)

EXAMPLE = """
>>> from heaprows.bounds import Crowded, can_fit, fit, how_many_fit, ranks_within, told_bounds
>>> free, tight = [(0, 3)] * 4, [(0, 3), (1, 1), (1, 1), (0, 3)]
>>> shown = [Crowded(1, 1, places).shows(tight) for places in ((1, 2), (1,), (2, 2))]
>>> [can_fit(free), told_bounds(free), ranks_within(free), how_many_fit(free), can_fit(tight), fit(tight).shows(tight), \
shown]
[True, [(0, 1), (1, 2), (1, 3), (2, 3)], [(0,), (1, 2), (1, 2, 3), (2, 3)], 3, False, True, [True, False, False]]
"""
NOT_PLACES = (-1, -12, 12, 13, 10 ** 30, -10 ** 30)


def pairs_of(many):
    return [(least, greatest) for least in range(many) for greatest in range(least, many)]


def within(row, bounds):
    return all(least <= key <= greatest for key, (least, greatest) in zip(row, bounds))


def around(heap, near, draw):
    """Bounds that a heap keeps within, more or less closely."""
    return [(draw.randint(max(0, key - near), key), draw.randint(key, min(len(heap) - 1, key + near))) for key in heap]


def drawn_bounds(most, times=40):
    """Pairs of arms and bounds: some that a heap keeps within, and some drawn at will."""
    draw = random.Random(7)
    found = []
    for many in range(most + 1):
        for arms in ALL_ARMS:
            found.append((arms, [(0, many - 1)] * many))
            for _ in range(times if many else 0):
                order = draw.sample(range(many), many)
                heap = [0] * many
                for key, place in enumerate(sorted(range(many), key=lambda at: (len(up(at, arms)), order[at]))):
                    heap[place] = key
                found += [(arms, around(heap, near, draw)) for near in (0, 1, 2, many)]
                found.append((arms, [draw.choice(pairs_of(many)) for _ in range(many)]))
                wide = [(draw.randint(0, many // 3), draw.randint(many // 2, many - 1)) for _ in range(many)]
                found.append((arms, wide))
    return found


def necessary(bounds, arms):
    """The necessary bounds worked out along all ways, from each place to each one above and below it."""
    many = len(bounds)
    found = []
    for place in range(many):
        least = max(bounds[above][0] + steps for steps, above in enumerate(up(place, arms)))
        greatest = min(bounds[below][1] - up(below, arms).index(place) for below in subtree(place, many, arms))
        found.append((least, greatest))
    return found


def is_crowd(first, last, places, told):
    return (len(set(places)) == len(places) and len(places) > len(range(first, last + 1))
            and all(0 <= place < len(told) and told[place][0] >= first and told[place][1] <= last
                    for place in places))


class BoundsTest(unittest.TestCase):
    def test_example(self):
        check_example(self, EXAMPLE)

    def check_all(self, bounds, arms):
        heaps = [heap for heap in full_heaps(len(bounds), arms) if within(heap, bounds)]
        for given in (list(bounds), tuple(bounds)):
            check_values(self, can_fit(given, arms=arms), bool(heaps))
            check_values(self, told_bounds(given, arms=arms), necessary(bounds, arms))
            check_values(self, how_many_fit(given, arms=arms), len(heaps))
        ranks = [tuple(sorted({heap[place] for heap in heaps})) for place in range(len(bounds))]
        check_values(self, ranks_within(bounds, arms=arms), ranks)
        self.check_fit(bounds, arms)
        self.assertEqual(type(fit(bounds, arms=arms)) is Fitted, bool(heaps))

    def check_fit(self, bounds, arms):
        """Check what fit returns without the help of the package."""
        found = fit(bounds, arms=arms)
        self.assertIs(found.shows(bounds, arms=arms), True)
        if type(found) is Fitted:
            self.assertIs(type(found.row), tuple)
            self.assertEqual(sorted(found.row), list(range(len(bounds))))
            self.assertTrue(heap_like(found.row, arms) and within(found.row, bounds), (found.row, bounds, arms))
        else:
            self.assertIs(type(found), Crowded)
            self.assertIs(type(found.places), tuple)
            self.assertTrue(is_crowd(found.first, found.last, found.places, necessary(bounds, arms)))

    def test_all_bounds_of_few_places(self):
        for many in range(4):
            for bounds in itertools.product(pairs_of(many), repeat=many):
                for arms in ALL_ARMS:
                    self.check_all(list(bounds), arms)

    def test_drawn_bounds(self):
        kinds = set()
        for arms, bounds in drawn_bounds(6):
            self.check_all(bounds, arms)
            kinds.add((len(bounds), arms, can_fit(bounds, arms=arms)))
        for many in range(2, 7):
            for arms in ALL_ARMS:
                self.assertIn((many, arms, True), kinds)
                self.assertIn((many, arms, False), kinds)

    def test_up_to_twelve_places(self):
        kinds = set()
        for arms, bounds in drawn_bounds(12, 8):
            self.check_fit(bounds, arms)
            check_values(self, told_bounds(bounds, arms=arms), necessary(bounds, arms))
            kinds.add((len(bounds), arms, can_fit(bounds, arms=arms)))
        self.assertLessEqual({(12, arms, fits) for arms in ALL_ARMS for fits in (True, False)}, kinds)

    def test_ranks_of_more_places(self):
        for arms, bounds in drawn_bounds(8, 2):
            if len(bounds) > 6:
                heaps = [heap for heap in full_heaps(len(bounds), arms) if within(heap, bounds)]
                ranks = [tuple(sorted({heap[place] for heap in heaps})) for place in range(len(bounds))]
                check_values(self, ranks_within(bounds, arms=arms), ranks)
                check_values(self, how_many_fit(bounds, arms=arms), len(heaps))

    def test_no_places(self):
        for arms in ALL_ARMS:
            for bounds in ([], ()):
                self.assertEqual(fit(bounds, arms=arms), Fitted(()))
                check_values(self, [told_bounds(bounds, arms=arms), ranks_within(bounds, arms=arms),
                                    how_many_fit(bounds, arms=arms), can_fit(bounds, arms=arms)], [[], [], 1, True])
                self.assertIs(Fitted(()).shows(bounds, arms=arms), True)
                self.assertIs(Fitted((0,)).shows(bounds, arms=arms), False)
                self.assertIs(Crowded(3, 2, ()).shows(bounds, arms=arms), False)
                self.assertIs(Crowded(3, 2, (0,)).shows(bounds, arms=arms), False)

    def test_two_arms_by_default(self):
        for bounds in ([(0, 3)] * 4, [(0, 4), (2, 2), (1, 4), (3, 4), (1, 4)]):
            for work in (fit, can_fit, told_bounds, ranks_within, how_many_fit):
                self.assertEqual(work(bounds), work(bounds, arms=2))
        self.assertIs(Fitted((0, 1, 2)).shows([(0, 2)] * 3), True)
        self.assertIs(Fitted((0, 2, 1)).shows([(0, 2)] * 3), True)
        self.assertIs(Fitted((0, 2, 1)).shows([(0, 2)] * 3, arms=1), False)
        self.assertIs(Crowded(1, 1, (1, 2)).shows([(0, 2), (1, 1), (1, 1)]), True)


class ShowsTest(unittest.TestCase):
    def test_fitted(self):
        for arms, bounds in drawn_bounds(4, 5):
            many = len(bounds)
            for row in itertools.product(range(-1, many + 1), repeat=many):
                expected = sorted(row) == list(range(many)) and heap_like(row, arms) and within(row, bounds)
                self.assertIs(Fitted(row).shows(bounds, arms=arms), expected)
            for row in full_heaps(many, arms):
                for wrong in (row + (many,), row[:-1] if row else (0,), row + (0,), (10 ** 30,) * many + (0,),
                              row + tuple(range(many, 13))):
                    self.assertIs(Fitted(wrong).shows(bounds, arms=arms), False)

    def test_crowded(self):
        for arms, bounds in drawn_bounds(4, 5)[::5]:
            many, told = len(bounds), necessary(bounds, arms)
            for first in range(-1, many + 1):
                for last in range(-2, many + 1):
                    for length in range(4):
                        for places in itertools.product(range(-1, many + 1), repeat=length):
                            expected = is_crowd(first, last, places, told)
                            self.assertIs(Crowded(first, last, places).shows(bounds, arms=arms), expected)

    def test_crowded_with_places_that_are_not(self):
        tight = [(0, 3), (1, 1), (1, 1), (0, 3)]
        for wrong in NOT_PLACES + (-2, -3, 4):
            for places in ((wrong,), (1, wrong), (1, 2, wrong), (wrong, 1, 2), (wrong, wrong), (wrong, wrong + 1)):
                self.assertIs(Crowded(1, 1, places).shows(tight), False)
                self.assertIs(Crowded(1, 0, places).shows(tight), False)
        for places in ((2, 1), (1, 2)):
            self.assertIs(Crowded(1, 1, places).shows(tight), True)
        for first, last in ((2, 1), (1, 0), (0, 1), (10 ** 30, 1), (1, 10 ** 30), (1, -10 ** 30), (-10 ** 30, 1),
                            (-10 ** 30, 10 ** 30), (10 ** 5000, -10 ** 5000), (-10 ** 5000, 10 ** 5000)):
            self.assertIs(Crowded(first, last, (1, 2)).shows(tight), False)

    def test_first_greater_than_last(self):
        # The root must be below its child at place 1, which must have the rank 0.
        bounds = [(0, 1), (0, 0)]
        self.assertEqual(told_bounds(bounds), [(0, -1), (1, 0)])
        shown = [(first, last, place) for first in range(-2, 3) for last in range(-2, first) for place in (0, 1)
                 if Crowded(first, last, (place,)).shows(bounds)]
        self.assertEqual(shown, [(0, -1, 0), (1, 0, 1)])
        self.assertIs(Crowded(1, 0, ()).shows(bounds), False)

    def test_current_attributes(self):
        bounds = [(0, 2), (1, 1), (1, 1)]
        fitted = Fitted((0, 1, 2))
        self.assertIs(fitted.shows([(0, 2)] * 3), True)
        fitted.row = (0, 1, 1)
        self.assertIs(fitted.shows([(0, 2)] * 3), False)
        crowded = Crowded(1, 1, (1, 2))
        self.assertIs(crowded.shows(bounds), True)
        for name, value in (("first", 2), ("last", 2), ("places", (1,))):
            kept = getattr(crowded, name)
            setattr(crowded, name, value)
            self.assertIs(crowded.shows(bounds), False)
            setattr(crowded, name, kept)
        self.assertIs(crowded.shows(bounds), True)

    def test_attributes(self):
        row, places = [0, 1], [1, 2]
        fitted, crowded = Fitted(row), Crowded(3, 4, places)
        row.append(2)
        places.clear()
        check_values(self, [fitted.row, crowded.first, crowded.last, crowded.places], [(0, 1), 3, 4, (1, 2)])
        check_values(self, vars(Crowded(first=1, last=0, places=[])), {"first": 1, "last": 0, "places": ()})
        check_values(self, vars(Fitted(row=(0,))), {"row": (0,)})

    def test_equality(self):
        check_equality(self, Fitted, ((0, 1),), [((0,),), ((1, 0),)], Crowded(0, 1, (0, 1)))
        self.assertIs(Fitted([0, 1]) == Fitted((0, 1)), True)
        check_equality(self, Crowded, (0, 1, (2, 1)), [(1, 1, (2, 1)), (0, 2, (2, 1)), (0, 1, (1, 2)), (0, 1, (2,))],
                       Fitted((2, 1)))


class BoundsErrorsTest(unittest.TestCase):
    works = [fit, can_fit, told_bounds, ranks_within, how_many_fit, Fitted((0,)).shows, Crowded(0, 0, (0,)).shows]

    def wrong_bounds(self):
        """Pairs of a value that is not bounds and of the place that the error must have."""
        wrong = [(thing, None) for thing in not_integers() + [0, 5] if not isinstance(thing, (list, tuple))]
        wrong += [([(0, 0)] * 13, None), (((0, 12),) * 13, None), ([None] * 13, None), ("12", None)]
        pairs = not_integers() + [0, 3, [0, 1], (0,), (0, 1, 1), (1, 0), (-1, 0), (-1, -1), (0, 4), (4, 4), (3, 2),
                                  (10 ** 30, 10 ** 31), (-10 ** 30, 0), (0, 10 ** 30), "01", b"01", {0: 1, 1: 1}]
        pairs += [(thing, 1) for thing in not_integers()] + [(0, thing) for thing in not_integers()]
        pairs += [(False, 1), (0, True), (True, True), (False, False), ((0, 1), (0, 1))]
        for pair in pairs:
            wrong += [([pair, (0, 3), (0, 3), (0, 3)], 0), (((0, 3), (0, 3), (0, 3), pair), 3),
                      ([(0, 3), pair, pair, pair], 1), ((pair,) * 4, 0)]
        for many in range(1, 13):
            last = many - 1
            wrong += [([(0, last)] * last + [(0, many)], last), ([(0, last)] * last + [(many, many)], last),
                      ([(last + 1, last)] + [(0, last)] * last, 0), ([[0, last]] * many, 0)]
        return wrong

    def test_bad_bounds(self):
        for bounds, place in self.wrong_bounds():
            for work in self.works:
                error = check_raises(self, BadBounds, work, bounds)
                self.assertIs(type(error.place), type(place))
                self.assertEqual(error.place, place)
                check_raises(self, BadBounds, work, bounds, arms=4)

    def test_good_bounds(self):
        for many in range(13):
            for arms in ALL_ARMS:
                for pair in ((0, many - 1), (0, 0), (many - 1, many - 1)):
                    for work in self.works:
                        if work != how_many_fit or many < 9:
                            work([pair] * many, arms=arms)
                            work((pair,) * many, arms=arms)

    def test_too_large(self):
        for arms in ALL_ARMS:
            for many in range(9, 13):
                check_raises(self, TooLarge, how_many_fit, [(0, many - 1)] * many, arms=arms)
                check_raises(self, TooLarge, how_many_fit, ((0, 0),) * many, arms=arms)
                self.assertEqual(check_raises(self, BadBounds, how_many_fit, [(0, many)] * many).place, 0)
        self.assertIsNone(check_raises(self, BadBounds, how_many_fit, [(0, 0)] * 13).place)

    def test_bad_arms(self):
        worse = [(None,), ([(1, 0)],), ([(0, 0)] * 13,), ([(0, 8)] * 9,), ("",)]
        for work in self.works:
            check_arms_errors(self, work, [(0, 1)] * 2, worse=worse)

    def test_order_of_errors(self):
        wrong = [bounds for bounds, _ in self.wrong_bounds()]
        for work in self.works:
            check_error_order(self, work, {"bounds": [(0, 1), (0, 1)]},
                              [(BadArms, "arms", bad_arms()), (BadBounds, "bounds", wrong)])
            self.assertRaises(TypeError, work, [(0, 0)], 2)

    def test_results_are_new(self):
        bounds = [(0, 2), (0, 2), (1, 2)]
        for work, empty in ((told_bounds, []), (ranks_within, [])):
            first = work(bounds)
            kept = list(first)
            first.clear()
            self.assertEqual(work(bounds), kept)
            work([]).append(1)
            self.assertEqual(work([]), empty)
        self.assertIsNot(fit(bounds), fit(bounds))

    def test_arguments_are_left_alone(self):
        for pairs in ([(0, 2), (0, 2), (1, 2)], [(0, 2), (1, 1), (1, 1)]):
            for work in self.works:
                bounds = list(pairs)
                work(bounds)
                self.assertEqual(bounds, pairs)
            found, told, ranks = fit(bounds), told_bounds(bounds), ranks_within(bounds)
            before = [dict(vars(found)), list(told), list(ranks)]
            bounds.clear()
            self.assertEqual([vars(found), told, ranks], before)
            self.assertIs(found.shows(pairs), True)


class BoundsLimitsTest(unittest.TestCase):
    def test_twelve_places(self):
        draw = random.Random(3)
        for arms in ALL_ARMS:
            loose = [(0, 11)] * 12
            cases = [loose, [(at // 3, 11 - at // 4) for at in range(12)]]
            cases += [[draw.choice(pairs_of(12)) for _ in range(12)]]
            for bounds in cases:
                for work in (fit, can_fit, told_bounds, ranks_within):
                    check_time(self, work, bounds, arms=arms)
                self.assertIs(check_time(self, fit(bounds, arms=arms).shows, bounds, arms=arms), True)
            for place, ranks in enumerate(ranks_within(loose, arms=arms)):
                depth, size = len(up(place, arms)) - 1, len(subtree(place, 12, arms))
                self.assertEqual(ranks, tuple(range(depth, 12 - size + 1)))

    def test_eight_places(self):
        for arms in ALL_ARMS:
            self.assertEqual(check_time(self, how_many_fit, [(0, 7)] * 8, arms=arms), len(full_heaps(8, arms)))
            bounds = [(0, 6)] * 7 + [(4, 6)]
            expected = len([heap for heap in full_heaps(8, arms) if within(heap, bounds)])
            self.assertEqual(check_time(self, how_many_fit, bounds, arms=arms), expected)


if __name__ == "__main__":
    unittest.main()

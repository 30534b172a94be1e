import itertools
import random
import unittest

from heaprows.errors import BadArms, BadIndex, BadMany, BadNumber, BadPlace, BadRank, BadSet
from heaprows.standing import (Barred, Stands, can_stand, closed_at, closed_index, closed_sets, heap_with, is_closed,
                               many_closed, ranks_of, stand)
from helpers import (ALL_ARMS, bad_arms, bad_integers, check_arms_errors, check_equality, check_error_order,
                     check_example, check_raises, check_time, check_values, full_heaps, heap_like, not_integers, parent,
                     subtree, up)

EXAMPLE = """
>>> from heaprows.standing import Barred, can_stand, closed_at, closed_sets, heap_with, many_closed, ranks_of, stand
>>> [ranks_of(6, 1), can_stand(6, 2, 5), stand(6, 4, 1).word, Barred('behind', (3, 4)).shows(6, 1, 4), \
closed_sets(5, 3), many_closed(7, 4, arms=3), closed_at(5, 3, 1), heap_with(5, (0, 2))[2]]
[[1, 2, 3], False, 'ahead', True, [(0, 1, 2), (0, 1, 3), (0, 1, 4)], 10, (0, 1, 3), 1]
"""
WORDS = ("ahead", "behind", "", "Ahead", "above", "ahead ", "below")


def is_stand(row, many, place, rank, arms):
    return sorted(row) == list(range(many)) and heap_like(row, arms) and row[place] == rank


def is_bar(word, places, many, place, rank, arms):
    """Whether a word and places bar a place from a rank, worked out on its own."""
    above = [other for other in range(many) if other != place and place in subtree(other, many, arms)]
    below = [other for other in range(many) if other != place and place in up(other, arms)]
    if list(places) != sorted(set(places)):
        return False
    if word == "ahead":
        return set(places) <= set(above) and len(places) > rank
    return word == "behind" and set(places) <= set(below) and len(places) > many - 1 - rank


def closed_oracle(many, arms):
    """All closed sets, found among all sets of places."""
    return [places for size in range(many + 1) for places in itertools.combinations(range(many), size)
            if all(place == 0 or parent(place, arms) in places for place in places)]


def arguments(most):
    return [(many, place, rank, arms) for many in range(1, most + 1) for arms in ALL_ARMS for place in range(many)
            for rank in range(many)]


class StandTest(unittest.TestCase):
    def test_example(self):
        check_example(self, EXAMPLE)

    def test_all_full_heaps(self):
        for many in range(1, 7):
            for arms in ALL_ARMS:
                for place in range(many):
                    ranks = sorted({heap[place] for heap in full_heaps(many, arms)})
                    check_values(self, ranks_of(many, place, arms=arms), ranks)
                    for rank in range(many):
                        check_values(self, can_stand(many, place, rank, arms=arms), rank in ranks)
                        self.assertIs(type(stand(many, place, rank, arms=arms)) is Stands, rank in ranks)

    def test_what_stand_returns(self):
        kinds = set()
        for many, place, rank, arms in arguments(12):
            found = stand(many, place, rank, arms=arms)
            self.assertIs(found.shows(many, place, rank, arms=arms), True)
            self.assertIs(can_stand(many, place, rank, arms=arms), type(found) is Stands)
            self.assertIs(rank in ranks_of(many, place, arms=arms), type(found) is Stands)
            if type(found) is Stands:
                self.assertIs(type(found.row), tuple)
                self.assertTrue(is_stand(found.row, many, place, rank, arms))
            else:
                self.assertIs(type(found), Barred)
                self.assertIs(type(found.places), tuple)
                self.assertTrue(is_bar(found.word, found.places, many, place, rank, arms))
            kinds.add((many, arms, getattr(found, "word", None)))
        self.assertLessEqual({(12, arms, word) for arms in ALL_ARMS for word in (None, "ahead", "behind")}, kinds)

    def test_two_arms_by_default(self):
        for place, rank in itertools.product(range(6), repeat=2):
            self.assertEqual(stand(6, place, rank), stand(6, place, rank, arms=2))
            self.assertIs(can_stand(6, place, rank), can_stand(6, place, rank, arms=2))
            self.assertEqual(ranks_of(6, place), ranks_of(6, place, arms=2))
            self.assertIs(stand(6, place, rank).shows(6, place, rank), True)
        found = [closed_sets(6, 3), many_closed(6, 3), closed_at(6, 3, 2), closed_index(6, (0, 1, 4)),
                 heap_with(6, (0, 2)), is_closed(6, (0, 2, 5))]
        self.assertEqual(found, [closed_sets(6, 3, arms=2), many_closed(6, 3, arms=2), closed_at(6, 3, 2, arms=2),
                                 closed_index(6, (0, 1, 4), arms=2), heap_with(6, (0, 2), arms=2), True])


class ShowsTest(unittest.TestCase):
    def test_stands(self):
        for many, place, rank, arms in arguments(4):
            for row in itertools.product(range(-1, many + 1), repeat=many):
                expected = is_stand(row, many, place, rank, arms)
                self.assertIs(Stands(row).shows(many, place, rank, arms=arms), expected)

    def test_stands_with_changed_rows(self):
        draw = random.Random(2)
        for many, place, rank, arms in arguments(7):
            row = draw.choice(full_heaps(many, arms))
            others = [row, list(row), row[:-1], row[1:], row + (many,), row + (0,), row[:-1] + (10 ** 30,),
                      row[:-1] + (-1,), (), row + tuple(range(many, 14))]
            for one, other in itertools.combinations(range(many), 2):
                changed = list(row)
                changed[one], changed[other] = row[other], row[one]
                others.append(changed)
            for changed in others:
                expected = len(changed) == many and is_stand(changed, many, place, rank, arms)
                self.assertIs(Stands(changed).shows(many, place, rank, arms=arms), expected)

    def test_barred(self):
        for many, place, rank, arms in arguments(5):
            for word in WORDS[:3]:
                for size in range(4):
                    for places in itertools.product(range(-1, many + 1), repeat=size):
                        expected = is_bar(word, places, many, place, rank, arms)
                        self.assertIs(Barred(word, places).shows(many, place, rank, arms=arms), expected)

    def test_barred_with_changed_places(self):
        for many, place, rank, arms in arguments(8):
            found = stand(many, place, rank, arms=arms)
            if type(found) is Barred:
                places = found.places
                others = [places, list(places), places[::-1], places + places, places[1:], places[:-1], (),
                          tuple(range(many)), places + (many,), (-1,) + places, places + (10 ** 30,),
                          (-10 ** 30,) + places]
                others += [tuple(sorted(set(places) | {other})) for other in range(many)]
                others += [places[:at] + (other,) + places[at + 1:] for at in range(len(places)) for other in range(many)]
                for changed in others:
                    for word in WORDS:
                        expected = is_bar(word, changed, many, place, rank, arms)
                        self.assertIs(Barred(word, changed).shows(many, place, rank, arms=arms), expected)
                for word in WORDS:
                    self.assertIs(Barred(word, places).shows(many, place, rank, arms=arms), word == found.word)

    def test_fewer_places_are_enough(self):
        # Two of the three places above would bar the last one from the rank 1.
        self.assertIs(Barred("ahead", (0, 2)).shows(4, 3, 1, arms=1), True)
        self.assertIs(Barred("ahead", (0, 1, 2)).shows(4, 3, 1, arms=1), True)
        self.assertIs(Barred("ahead", (1,)).shows(4, 3, 1, arms=1), False)
        self.assertIs(Barred("ahead", (2, 3)).shows(4, 3, 1, arms=1), False)
        self.assertIs(Barred("behind", (2, 3)).shows(4, 0, 2, arms=1), True)
        self.assertIs(Barred("behind", (0, 3)).shows(4, 0, 2, arms=1), False)

    def test_current_attributes(self):
        stands, barred = Stands((0, 1, 2)), Barred("ahead", (0,))
        self.assertEqual([stands.shows(3, 2, 2), barred.shows(3, 2, 0)], [True, True])
        stands.row, barred.word = (0, 2, 1), "behind"
        self.assertEqual([stands.shows(3, 2, 2), barred.shows(3, 2, 0)], [False, False])
        barred.word, barred.places = "ahead", (1,)
        self.assertIs(barred.shows(3, 2, 0), False)

    def test_attributes_and_equality(self):
        row, places = [0, 1], [1, 2]
        stands, barred = Stands(row), Barred("behind", places)
        row.clear()
        places.clear()
        check_values(self, [vars(stands), vars(barred)], [{"row": (0, 1)}, {"word": "behind", "places": (1, 2)}])
        check_values(self, [vars(Stands(row=[])), vars(Barred(word="", places=[]))],
                     [{"row": ()}, {"word": "", "places": ()}])
        check_equality(self, Stands, ((0, 1),), [((1, 0),), ((0,),)], Barred("ahead", (0, 1)))
        check_equality(self, Barred, ("ahead", (0, 1)), [("behind", (0, 1)), ("ahead", (0,)), ("ahead", (0, 2))],
                       Stands((0, 1)))


class ClosedTest(unittest.TestCase):
    def test_all_sets(self):
        for many in range(8):
            for arms in ALL_ARMS:
                closed = closed_oracle(many, arms)
                for count in range(many + 1):
                    expected = sorted(places for places in closed if len(places) == count)
                    check_values(self, closed_sets(many, count, arms=arms), expected)
                    check_values(self, many_closed(many, count, arms=arms), len(expected))
                    for index, places in enumerate(expected):
                        check_values(self, closed_at(many, count, index, arms=arms), places)
                        check_values(self, closed_index(many, places, arms=arms), index)
                for size in range(many + 1):
                    for places in itertools.combinations(range(many), size):
                        self.assertIs(is_closed(many, places, arms=arms), places in closed)
                        if places not in closed:
                            check_raises(self, BadSet, closed_index, many, places, arms=arms)
                            check_raises(self, BadSet, heap_with, many, places, arms=arms)

    def test_least_keys_of_full_heaps(self):
        for many in range(7):
            for arms in ALL_ARMS:
                for count in range(many + 1):
                    found = {tuple(place for place in range(many) if heap[place] < count)
                             for heap in full_heaps(many, arms)}
                    self.assertEqual(closed_sets(many, count, arms=arms), sorted(found))

    def test_up_to_twelve_places(self):
        for arms in ALL_ARMS:
            for many in range(13):
                closed = closed_oracle(many, arms)
                for count in range(many + 1):
                    expected = sorted(places for places in closed if len(places) == count)
                    self.assertEqual(check_time(self, closed_sets, many, count, arms=arms), expected)
                    self.assertEqual(check_time(self, many_closed, many, count, arms=arms), len(expected))
                    last = len(expected) - 1
                    for index in {0, 1, last // 2, last - 1, last} & set(range(last + 1)):
                        places = check_time(self, closed_at, many, count, index, arms=arms)
                        self.assertEqual(places, expected[index])
                        self.assertEqual(check_time(self, closed_index, many, places, arms=arms), index)
                        self.check_heap_with(many, places, arms)

    def check_heap_with(self, many, places, arms):
        for work in (heap_with, lambda many, closed, arms: heap_with(closed=closed, many=many, arms=arms)):
            row = work(many, places, arms=arms)
            self.assertIs(type(row), tuple)
            self.assertEqual(sorted(row), list(range(many)))
            self.assertTrue(heap_like(row, arms))
            self.assertEqual(tuple(place for place in range(many) if row[place] < len(places)), places)

    def test_heap_with_each_closed_set(self):
        for many in range(8):
            for arms in ALL_ARMS:
                for places in closed_oracle(many, arms):
                    self.check_heap_with(many, places, arms)

    def things(self):
        """Values of many kinds that are no closed sets of six places with two arms."""
        things = not_integers() + [0, 1, (1,), (0, 3), (0, 1, 5), (0, 0), (0, 1, 1), (1, 0), (0, 2, 1), (0, 6), (-1, 0),
                                   (0, -1), (0, 10 ** 30), (-10 ** 30,), (True,), (False,), (0, True), (False, 1),
                                   (0, True, 3), [0], [0, 1], (0, "1"), ("0",), ((0,),), (0, (1,)), (0, None),
                                   "0", "01", b"\x00", b"\x00\x01", {0: 1}, {0}, range(1), (0, [1]), (0, {}),
                                   tuple(range(7)), tuple(range(13)), (0,) * 100, (None,) * 3, (0, 1, 2, 3, 4, 5, 5)]
        return [thing for thing in things if type(thing) is not tuple or thing]

    def test_things_of_every_kind(self):
        for thing in self.things():
            self.assertIs(is_closed(6, thing), False, thing)
            check_raises(self, BadSet, closed_index, 6, thing)
            check_raises(self, BadSet, heap_with, 6, thing)
        for thing in ((), (0,), (0, 1, 2, 3, 4, 5), (0, 2, 5)):
            self.assertIs(is_closed(6, thing), True)
            closed_index(6, thing)
            heap_with(6, thing)
        for many in (0, 1):
            for arms in ALL_ARMS:
                self.assertIs(is_closed(many, (), arms=arms), True)
                self.assertIs(is_closed(many, (0,), arms=arms), many == 1)
                self.assertIs(is_closed(many, [], arms=arms), False)
                self.assertIs(is_closed(many, (False,), arms=arms), False)

    def test_no_places(self):
        for arms in ALL_ARMS:
            found = [closed_sets(0, 0, arms=arms), many_closed(0, 0, arms=arms), closed_at(0, 0, 0, arms=arms),
                     closed_index(0, (), arms=arms), heap_with(0, (), arms=arms)]
            check_values(self, found, [[()], 1, (), 0, ()])

    def test_lists_are_new(self):
        for work, args in ((closed_sets, (5, 3)), (ranks_of, (6, 1)), (closed_sets, (0, 0))):
            first = work(*args)
            kept = list(first)
            first.clear()
            self.assertEqual(work(*args), kept)


class StandingErrorsTest(unittest.TestCase):
    def test_order_of_errors(self):
        many = [(BadArms, "arms", bad_arms()), (BadMany, "many", bad_integers(0, 12))]
        place = many + [(BadPlace, "place", bad_integers(0, 4))]
        rank = place + [(BadRank, "rank", bad_integers(0, 4))]
        good = {"many": 5, "place": 4, "rank": 4}
        for work in (stand, can_stand, Stands((0, 1, 2, 3, 4)).shows, Barred("ahead", (0,)).shows):
            check_error_order(self, work, good, rank)
            for arms in ALL_ARMS:
                work(**good, arms=arms)
                for number in bad_integers(0, -1):
                    check_raises(self, BadPlace, work, 0, number, 0, arms=arms)
        check_error_order(self, ranks_of, {"many": 5, "place": 4}, place)
        counts = many + [(BadNumber, "count", bad_integers(0, 5))]
        for work in (closed_sets, many_closed):
            check_error_order(self, work, {"many": 5, "count": 5}, counts)
        indices = counts + [(BadIndex, "index", bad_integers(0, 2))]
        check_error_order(self, closed_at, {"many": 5, "count": 3, "index": 2}, indices)
        check_error_order(self, is_closed, {"many": 5, "thing": None}, many)
        wrong = ClosedTest().things()
        for work in (closed_index, heap_with):
            check_error_order(self, work, {"many": 6, "closed": (0, 2, 5)}, many + [(BadSet, "closed", wrong)])

    def test_bad_arms(self):
        calls = [(stand, (3, 0, 0)), (can_stand, (3, 0, 0)), (ranks_of, (3, 0)), (closed_sets, (3, 1)),
                 (many_closed, (3, 1)), (closed_at, (3, 1, 0)), (is_closed, (3, ())), (closed_index, (3, (0,))),
                 (heap_with, (3, (0,))), (Stands(()).shows, (3, 0, 0)), (Barred("", ()).shows, (3, 0, 0))]
        for work, args in calls:
            check_arms_errors(self, work, *args, worse=[(13,) + args[1:], (None,) * len(args)])
            self.assertRaises(TypeError, work, *args, 2)

    def test_bad_index(self):
        for arms in ALL_ARMS:
            for many in range(6):
                for count in range(many + 1):
                    last = many_closed(many, count, arms=arms) - 1
                    for index in bad_integers(0, last):
                        check_raises(self, BadIndex, closed_at, many, count, index, arms=arms)

    def test_limits(self):
        for arms in ALL_ARMS:
            for place, rank in itertools.product((0, 5, 11), repeat=2):
                found = check_time(self, stand, 12, place, rank, arms=arms)
                self.assertIs(check_time(self, found.shows, 12, place, rank, arms=arms), True)
            check_time(self, ranks_of, 12, 11, arms=arms)

    def test_arguments_are_left_alone(self):
        row, places = [0, 1, 2], [0]
        self.assertIs(Stands(row).shows(3, 2, 2), True)
        self.assertIs(Barred("ahead", places).shows(3, 2, 0), True)
        self.assertEqual((row, places), ([0, 1, 2], [0]))
        thing = [0, 1]
        self.assertIs(is_closed(3, thing), False)
        self.assertEqual(thing, [0, 1])


if __name__ == "__main__":
    unittest.main()

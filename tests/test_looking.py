"""Promise 13: looks, open ranks, Sure, Open and Fewest."""

import itertools
import random
import unittest

from heaprows.errors import BadArms, BadMany, BadOrder, BadPlace, BadRow, NotHeap, TooLarge
from heaprows.looking import Fewest, Open, Sure, fewest_looks, is_sure, judge_rank, open_ranks, sure_places
from helpers import (
    ALL_ARMS, bad_arms, bad_integers, bad_row_values, check_arms_errors, check_equality, check_error_order,
    check_example, check_heap_errors, check_raises, check_row_errors, check_time, check_values, children, full_heaps,
    heap_like, not_integers, up)

EXAMPLE = """
>>> from heaprows.looking import Open, fewest_looks, is_sure, judge_rank, open_ranks, sure_places
>>> [open_ranks(6, (2, 3), 1), sure_places(5, (1, 4, 2)), judge_rank(5, (2, 1), 2).rank, is_sure(3, (), 1), fewest_looks((0, 2, 1), 2).look, Open((0, 1, 2), (0, 2, 1)).shows(3, (), 1)]
[[1, 2, 3], (0, 1), 1, False, (2, 1), True]
"""


def fits(look, arms):
    return not any(later in up(place, arms) for place, later in itertools.combinations(look, 2))


def agrees(heap, look):
    return all(heap[one] < heap[other] for one, other in zip(look, look[1:]))


def all_looks(many):
    return [look for size in range(many + 1) for look in itertools.permutations(range(many), size)]


def fitting_looks(many, arms):
    return [look for look in all_looks(many) if fits(look, arms)]


def open_oracle(many, look, place, arms):
    return sorted({heap[place] for heap in full_heaps(many, arms) if agrees(heap, look)})


def is_full_one(row, many, arms):
    return len(row) == many and sorted(row) == list(range(many)) and heap_like(row, arms)


def is_chain(chain, begun, ended, many, look, arms):
    if len(chain) < 2 or chain[0] != begun or chain[-1] != ended or not all(0 <= at < many for at in chain):
        return False
    return all(other in children(one, many, arms) or (one, other) in itertools.combinations(look, 2)
               for one, other in zip(chain, chain[1:]))


def is_sure_answer(rank, ahead, behind, many, look, place, arms):
    """What [13] asks of a Sure, except that its rank is the one that is open: this follows."""
    others = sorted(list(ahead) + list(behind))
    if others != [other for other in range(many) if other != place] or len(ahead) != rank:
        return False
    return (all(is_chain(chain, other, place, many, look, arms) for other, chain in ahead.items())
            and all(is_chain(chain, place, other, many, look, arms) for other, chain in behind.items()))


def is_open_answer(one, other, many, look, place, arms):
    return all(is_full_one(row, many, arms) and agrees(row, look) for row in (one, other)) and one[place] != other[place]


def drawn_look(draw, many, arms):
    """A look that fits, drawn from an order in which each place comes behind its parent."""
    left, order = [0] if many else [], []
    while left:
        place = left.pop(draw.randrange(len(left)))
        order.append(place)
        left += children(place, many, arms)
    size = draw.randint(0, many)
    chosen = draw.sample(order, size)
    return tuple(place for place in order if place in chosen)


def tells(look, heap):
    return agrees(heap, look)


def looks_that_tell(heap, size):
    return [look for look in itertools.permutations(range(len(heap)), size) if tells(look, heap)] if size >= 0 else []


class LookingTest(unittest.TestCase):
    def test_example(self):
        check_example(self, EXAMPLE)

    def test_all_looks(self):
        for many in range(6):
            for arms in ALL_ARMS:
                for look in fitting_looks(many, arms):
                    sure = []
                    for place in range(many):
                        expected = open_oracle(many, look, place, arms)
                        self.assertEqual(open_ranks(many, look, place, arms=arms), expected)
                        self.assertIs(is_sure(many, look, place, arms=arms), len(expected) == 1)
                        self.check_judged(many, look, place, arms, expected)
                        sure += [place] * (len(expected) == 1)
                    check_values(self, sure_places(many, look, arms=arms), tuple(sure))

    def check_judged(self, many, look, place, arms, expected=None):
        found = judge_rank(many, look, place, arms=arms)
        self.assertIs(found.shows(many, look, place, arms=arms), True)
        if expected is not None:
            self.assertIs(type(found), Sure if len(expected) == 1 else Open)
        if type(found) is Sure:
            self.assertTrue(is_sure_answer(found.rank, found.ahead, found.behind, many, look, place, arms))
            self.assertIs(type(found.rank), int)
            self.assertEqual(expected or [found.rank], [found.rank])
            for chain in list(found.ahead.values()) + list(found.behind.values()):
                self.assertIs(type(chain), tuple)
        else:
            self.assertEqual((type(found.one), type(found.other)), (tuple, tuple))
            self.assertTrue(is_open_answer(found.one, found.other, many, look, place, arms))
        return found

    def test_kinds_are_exact(self):
        check_values(self, [open_ranks(6, (2, 3), 1), open_ranks(1, (), 0), open_ranks(1, (0,), 0)],
                     [[1, 2, 3], [0], [0]])
        check_values(self, [sure_places(0, ()), sure_places(1, ()), sure_places(3, (1, 2))], [(), (0,), (0, 1, 2)])

    def test_twelve_places(self):
        draw = random.Random(1)
        kinds = set()
        for many in (6, 7, 8, 9, 10, 11, 12, 12, 12, 12):
            for arms in ALL_ARMS:
                for _ in range(4):
                    look = drawn_look(draw, many, arms)
                    sure = check_time(self, sure_places, many, look, arms=arms)
                    for place in range(many):
                        found = self.check_judged(many, look, place, arms)
                        ranks = check_time(self, open_ranks, many, look, place, arms=arms)
                        self.assertEqual(len(ranks) == 1, type(found) is Sure)
                        self.assertEqual(place in sure, type(found) is Sure)
                        self.assertIs(is_sure(many, look, place, arms=arms), type(found) is Sure)
                        self.assertEqual(ranks, list(range(ranks[0], ranks[-1] + 1)))
                        if type(found) is Open:
                            self.assertLessEqual({found.one[place], found.other[place]}, set(ranks))
                        kinds.add((many, arms, type(found)))
        self.assertLessEqual({(12, arms, kind) for arms in (2, 3, 4) for kind in (Sure, Open)}, kinds)

    def test_a_look_at_all_places(self):
        draw = random.Random(2)
        for arms in ALL_ARMS:
            for many in range(13):
                order, left = [], [0] if many else []
                while left:
                    order.append(left.pop(draw.randrange(len(left))))
                    left += children(order[-1], many, arms)
                self.assertEqual(sure_places(many, tuple(order), arms=arms), tuple(range(many)))
                for rank, place in enumerate(order):
                    self.assertEqual(judge_rank(many, tuple(order), place, arms=arms).rank, rank)

    def test_two_arms_by_default(self):
        for look in ((), (2, 3), (4, 2)):
            self.assertEqual(sure_places(6, look), sure_places(6, look, arms=2))
            for place in range(6):
                self.assertEqual(open_ranks(6, look, place), open_ranks(6, look, place, arms=2))
                self.assertEqual(judge_rank(6, look, place), judge_rank(6, look, place, arms=2))
                self.assertIs(judge_rank(6, look, place).shows(6, look, place), True)
                self.assertIs(is_sure(6, look, place), is_sure(6, look, place, arms=2))
        self.assertEqual(fewest_looks((0, 2, 1, 3), 2), fewest_looks((0, 2, 1, 3), 2, arms=2))
        self.assertIs(fewest_looks((0, 2, 1, 3), 2).shows((0, 2, 1, 3), 2), True)

    def test_by_keyword(self):
        self.assertEqual(open_ranks(place=1, look=(2, 3), many=6), [1, 2, 3])
        self.assertEqual(judge_rank(place=2, look=(2, 1), many=5).rank, 1)
        self.assertIs(is_sure(place=1, look=(), many=3), False)
        self.assertEqual(sure_places(look=(1, 4, 2), many=5), (0, 1))
        self.assertEqual(fewest_looks(place=2, row=[0, 2, 1]).look, (2, 1))


class SureTest(unittest.TestCase):
    def check(self, rank, ahead, behind, many, look, place, arms):
        expected = is_sure_answer(rank, ahead, behind, many, look, place, arms)
        found = Sure(rank, ahead, behind).shows(many, look, place, arms=arms)
        self.assertIs(found, expected, (rank, ahead, behind, many, look, place, arms))
        return found

    def cases(self, draw):
        for many in range(1, 6):
            for arms in ALL_ARMS:
                looks = fitting_looks(many, arms)
                for look in looks if len(looks) < 12 else draw.sample(looks, 12):
                    for place in sure_places(many, look, arms=arms):
                        yield many, look, place, arms, judge_rank(many, look, place, arms=arms)
        for arms in ALL_ARMS:
            for _ in range(4):
                look = drawn_look(draw, 12, arms)
                for place in sure_places(12, look, arms=arms)[-1:]:
                    yield 12, look, place, arms, judge_rank(12, look, place, arms=arms)

    def test_changed(self):
        shown = 0
        draw = random.Random(3)
        for many, look, place, arms, sure in self.cases(draw):
            told = (many, look, place, arms)
            for rank in (sure.rank - 1, sure.rank + 1, 0, many, many - 1, -1, 10 ** 30):
                self.check(rank, sure.ahead, sure.behind, *told)
            self.check(len(sure.behind), sure.behind, sure.ahead, *told)
            self.check(sure.rank, sure.behind, sure.ahead, *told)
            for name in ("ahead", "behind"):
                for other, chain in getattr(sure, name).items():
                    for chains in self.changed_chains(getattr(sure, name), other, chain, many, place, look):
                        told_chains = {"ahead": sure.ahead, "behind": sure.behind, name: chains}
                        for rank in {sure.rank, len(told_chains["ahead"])}:
                            if many == 12 and draw.random() < 0.9:
                                continue
                            shown += self.check(rank, told_chains["ahead"], told_chains["behind"], *told)
                    self.moved(sure, name, other, told)
            for extra in (place, many, -1, 10 ** 30):
                for chain in ((extra, place), (place, extra), (place,), ()):
                    self.check(sure.rank + 1, {**sure.ahead, extra: chain}, sure.behind, *told)
                    self.check(sure.rank, sure.ahead, {**sure.behind, extra: chain}, *told)
        self.assertGreater(shown, 100)

    def changed_chains(self, chains, other, chain, many, place, look):
        """Dicts with one chain left out, put for another one, or changed."""
        yield {key: chains[key] for key in chains if key != other}
        yield {key: chains[key] for key in reversed(list(chains))}
        longer = [chain[:at] + (more,) + chain[at:] for at in range(len(chain) + 1) for more in range(-1, many + 1)]
        shorter = [chain[:at] + chain[at + 1:] for at in range(len(chain))]
        swapped = [chain[:at] + (more,) + chain[at + 1:] for at in range(len(chain)) for more in range(many)]
        direct = [(other, place), (place, other), look, chain[::-1], chain + chain, (), chain[:1], chain[-1:]]
        for changed in longer + shorter + swapped + direct:
            yield {**chains, other: changed}

    def moved(self, sure, name, other, told):
        """The chain of a place in the other dict, or in both."""
        back = {"ahead": "behind", "behind": "ahead"}[name]
        chain = getattr(sure, name)[other]
        here = {key: one for key, one in getattr(sure, name).items() if key != other}
        for changed in (chain, chain[::-1]):
            there = {**getattr(sure, back), other: changed}
            dicts = {name: here, back: there}
            self.check(len(dicts["ahead"]), dicts["ahead"], dicts["behind"], *told)
            dicts = {name: getattr(sure, name), back: there}
            for rank in (sure.rank, len(dicts["ahead"])):
                self.check(rank, dicts["ahead"], dicts["behind"], *told)

    def test_open_ranks_are_never_sure(self):
        self.assertIs(Sure(1, {0: (0, 1)}, {2: (1, 2)}).shows(3, (), 1), False)
        self.assertIs(Sure(1, {0: (0, 1)}, {2: (1, 2)}).shows(3, (1, 2), 1), True)
        self.assertIs(Sure(1, {0: (0, 1)}, {}).shows(3, (), 1), False)
        self.assertIs(Sure(0, {}, {}).shows(1, (), 0), True)
        self.assertIs(Sure(0, {}, {}).shows(1, (0,), 0), True)
        self.assertIs(Sure(0, {}, {}).shows(2, (), 0), False)

    def test_a_step_may_leave_places_of_the_look_out(self):
        for chain in ((1, 2), (1, 3, 2), (1, 3, 4, 2), (1, 4, 2)):
            self.assertIs(Sure(1, {0: (0, 1)}, {2: chain, 3: (1, 3), 4: (1, 4)}).shows(5, (1, 3, 4, 2), 1), True)
        for chain in ((1, 4, 3, 2), (1, 3, 1, 2), (1, 0, 2), (1, 1, 2), (1, 2, 2)):
            self.assertIs(Sure(1, {0: (0, 1)}, {2: chain, 3: (1, 3), 4: (1, 4)}).shows(5, (1, 3, 4, 2), 1), False)

    def test_booleans(self):
        good = Sure(1, {0: (0, 1)}, {2: (1, 2)})
        self.assertIs(good.shows(3, (1, 2), 1), True)
        for wrong in (Sure(True, {0: (0, 1)}, {2: (1, 2)}), Sure(1, {False: (0, 1)}, {2: (1, 2)}),
                      Sure(1, {0: (False, 1)}, {2: (1, 2)}), Sure(1, {0: (0, True)}, {2: (1, 2)}),
                      Sure(1, {0: [0, 1]}, {2: (1, 2)}), Sure(None, {0: (0, 1)}, {2: (1, 2)})):
            self.assertIs(wrong.shows(3, (1, 2), 1), False)

    def test_current_attributes(self):
        sure = Sure(1, {0: (0, 1)}, {2: (1, 2)})
        sure.rank = 0
        self.assertIs(sure.shows(3, (1, 2), 1), False)
        sure.rank = 1
        sure.behind[2] = (2, 1)
        self.assertIs(sure.shows(3, (1, 2), 1), False)
        sure.behind = {2: (1, 2)}
        self.assertIs(sure.shows(3, (1, 2), 1), True)
        sure.ahead.clear()
        self.assertIs(sure.shows(3, (1, 2), 1), False)

    def test_attributes_and_equality(self):
        ahead, behind = {0: (0, 1)}, {2: (1, 2)}
        sure = Sure(1, ahead, behind)
        ahead.clear()
        behind[3] = ()
        check_values(self, vars(sure), {"rank": 1, "ahead": {0: (0, 1)}, "behind": {2: (1, 2)}})
        check_values(self, vars(Sure(behind={}, ahead={}, rank=0)), {"rank": 0, "ahead": {}, "behind": {}})
        check_equality(self, Sure, (1, {0: (0, 1)}, {2: (1, 2)}),
                       [(2, {0: (0, 1)}, {2: (1, 2)}), (1, {}, {2: (1, 2)}), (1, {0: (0, 1)}, {2: (1, 2, 3)})],
                       Open((0, 1), (0, 1)), Fewest((), {}))
        self.assertEqual(Sure(2, {0: (0, 1), 3: (3, 1)}, {}), Sure(2, {3: (3, 1), 0: (0, 1)}, {}))


class OpenTest(unittest.TestCase):
    def test_all_pairs(self):
        for many in range(1, 5):
            rows = list(itertools.permutations(range(many)))
            for arms in ALL_ARMS:
                for look in fitting_looks(many, arms):
                    for place in range(many):
                        for one, other in itertools.product(rows, repeat=2):
                            self.assertIs(Open(one, list(other)).shows(many, look, place, arms=arms),
                                          is_open_answer(one, other, many, look, place, arms))

    def test_other_rows(self):
        good = (0, 1, 2)
        for wrong in ((0, 2), (0, 2, 1, 3), (), (0, 2, 2), (1, 0, 2), (1, 3, 2), (-1, 1, 0), (0, 10 ** 30, 1),
                      (0, 2, True), (False, 2, 1), (0, 0, 0), tuple(range(13)), (0,) * 13):
            self.assertIs(Open(good, wrong).shows(3, (), 1), False)
            self.assertIs(Open(wrong, good).shows(3, (), 1), False)
        self.assertIs(Open(good, [0, 2, 1]).shows(3, (), 1), True)
        self.assertIs(Open([0, 2, 1], good).shows(3, (), 1), True)
        self.assertIs(Open(good, good).shows(3, (), 1), False)

    def test_current_attributes(self):
        thing = Open((0, 1, 2), (0, 2, 1))
        thing.one = [0, 2, 1]
        self.assertIs(thing.shows(3, (), 1), False)
        thing.other = [0, 1, 2]
        self.assertIs(thing.shows(3, (), 1), True)

    def test_attributes_and_equality(self):
        one, other = [0, 1], [1, 0]
        thing = Open(one, other)
        one.clear()
        other.clear()
        check_values(self, vars(thing), {"one": (0, 1), "other": (1, 0)})
        check_values(self, vars(Open(other=[], one=(0,))), {"one": (0,), "other": ()})
        check_equality(self, Open, ((0, 1), (1, 0)), [((1, 0), (0, 1)), ((0, 1), (0, 1)), ((1, 0), (1, 0))],
                       Sure((0, 1), {}, {}))


class FewestTest(unittest.TestCase):
    def heaps(self, draw):
        for many in range(1, 6):
            for arms in ALL_ARMS:
                for heap in full_heaps(many, arms):
                    yield heap, arms
        for arms in ALL_ARMS:
            for many in (6, 7):
                for heap in draw.sample(full_heaps(many, arms), min(4, len(full_heaps(many, arms)))):
                    yield heap, arms

    def test_all_looks_that_tell(self):
        for heap, arms in self.heaps(random.Random(4)):
            many = len(heap)
            for place in range(many):
                found = check_time(self, fewest_looks, heap, place, arms=arms)
                self.assertIs(found.shows(list(heap), place, arms=arms), True)
                self.assertIs(type(found.look), tuple)
                self.assertTrue(tells(found.look, heap))
                self.assertTrue(is_sure(many, found.look, place, arms=arms))
                if many < 6:
                    self.assertEqual(len(open_oracle(many, found.look, place, arms)), 1)
                    fewer = [look for size in range(len(found.look)) for look in looks_that_tell(heap, size)]
                    self.assertFalse([look for look in fewer if len(open_oracle(many, look, place, arms)) == 1])
                self.assertEqual(sorted(found.opens), sorted(looks_that_tell(heap, len(found.look) - 1)))
                for look, thing in found.opens.items():
                    self.assertIs(type(thing), Open)
                    self.assertTrue(is_open_answer(thing.one, thing.other, many, look, place, arms))

    def test_each_look_that_tells(self):
        """Each look that tells of a heap, with an Open for all with one place fewer where there is one."""
        for many in range(1, 6):
            for arms in ALL_ARMS:
                for heap in full_heaps(many, arms)[:4]:
                    for place in range(many):
                        least = len(fewest_looks(heap, place, arms=arms).look)
                        for size in range(many + 1):
                            shorter = looks_that_tell(heap, size - 1)
                            opens = {look: judge_rank(many, look, place, arms=arms) for look in shorter}
                            for look in looks_that_tell(heap, size):
                                expected = size == least and len(open_oracle(many, look, place, arms)) == 1
                                shown = Fewest(look, opens).shows(heap, place, arms=arms)
                                self.assertIs(shown, expected, (heap, place, look))

    def test_changed(self):
        heap, place, arms = (0, 2, 1, 4, 3), 1, 2
        good = fewest_looks(heap, place, arms=arms)
        self.assertGreater(len(good.opens), 1)
        show = lambda look, opens: Fewest(look, opens).shows(heap, place, arms=arms)
        self.assertIs(show(good.look, good.opens), True)
        self.assertIs(show(good.look, {key: good.opens[key] for key in reversed(list(good.opens))}), True)
        for look in good.opens:
            self.assertIs(show(good.look, {key: good.opens[key] for key in good.opens if key != look}), False)
            for wrong in (Open(heap, heap), Open((), ()), Open(heap, (0, 1, 2, 3)), Sure(0, {}, {}), None):
                self.assertIs(show(good.look, {**good.opens, look: wrong}), False)
            other = {key: good.opens[key] for key in good.opens if key != look}
            for wrong in (look[::-1] + (9,), tuple(bool(at) if at < 2 else at for at in look)):
                if len(look) > 0 and look != wrong or any(at < 2 for at in look):
                    self.assertIs(show(good.look, {**other, wrong: good.opens[look]}), False)
        some = next(iter(good.opens.values()))
        for look in all_looks(5):
            if look not in good.opens:
                self.assertIs(show(good.look, {**good.opens, look: some}), False)
            if look != good.look:
                expected = len(look) == len(good.look) and tells(look, heap) and is_sure(5, look, place)
                self.assertIs(show(look, good.opens), expected)
        for look in (good.look + (9,), good.look[:-1] + (9,), (-1,) * len(good.look), (0, 0), (True,), (10 ** 30,)):
            self.assertIs(show(look, good.opens), False)

    def test_no_places_are_enough(self):
        for arms in ALL_ARMS:
            found = fewest_looks((0,), 0, arms=arms)
            check_values(self, [found.look, found.opens], [(), {}])
            self.assertIs(Fewest((), {}).shows((0,), 0, arms=arms), True)
            self.assertIs(Fewest((), {(): Open((0,), (0,))}).shows((0,), 0, arms=arms), False)
            self.assertIs(Fewest((0,), {(): Open((0,), (0,))}).shows((0,), 0, arms=arms), False)
        self.assertEqual(fewest_looks(tuple(range(7)), 4, arms=1).look, ())
        self.assertIs(Fewest((), {}).shows((0, 1, 2), 1, arms=2), False)

    def test_at_most_seven_places(self):
        for arms in ALL_ARMS:
            for heap in (full_heaps(7, arms)[0], full_heaps(7, arms)[-1]):
                for place in range(7):
                    found = check_time(self, fewest_looks, heap, place, arms=arms)
                    self.assertIs(check_time(self, found.shows, heap, place, arms=arms), True)
            for many in range(8, 13):
                for work in (fewest_looks, Fewest((), {}).shows):
                    check_raises(self, TooLarge, work, tuple(range(many)), 0, arms=arms)

    def test_current_attributes(self):
        found = fewest_looks((0, 2, 1), 2)
        found.look = (1, 2)
        self.assertIs(found.shows((0, 2, 1), 2), False)
        found.look = (2, 1)
        self.assertIs(found.shows((0, 2, 1), 2), True)
        found.opens.popitem()
        self.assertIs(found.shows((0, 2, 1), 2), False)

    def test_attributes_and_equality(self):
        opens = {(): Open((0,), (0,))}
        fewest = Fewest((0,), opens)
        opens.clear()
        self.assertEqual(vars(fewest), {"look": (0,), "opens": {(): Open((0,), (0,))}})
        self.assertEqual(vars(Fewest(opens={}, look=())), {"look": (), "opens": {}})
        check_equality(self, Fewest, ((0, 1), {(0,): Open((0,), (1,))}),
                       [((0,), {(0,): Open((0,), (1,))}), ((0, 1), {}), ((0, 1), {(0,): Open((0,), (2,))})],
                       Sure((0, 1), {}, {}), Open((0, 1), ()))


class LookingErrorsTest(unittest.TestCase):
    def bad_looks(self):
        """Values that are no looks that fit, for six places with two arms."""
        wrong = [thing for thing in not_integers() if thing != () or type(thing) is not tuple]
        wrong = [thing for thing in wrong if type(thing) is not tuple or thing != (1,)]
        return wrong + [0, 1, [0], [1, 2], (6,), (-1,), (0, 0), (1, 2, 1), (True,), (False,), (0, True), (1, 0), (3, 1),
                        (3, 4, 0), (5, 1, 2), (4, 3, 1), (10 ** 30,), (-10 ** 30, 1), (10 ** 5000,), ("1",), (None,),
                        ((0,),), (0, (1,)), ([1],), (0, 1, 2, 3, 4, 5, 6), (0,) * 13, tuple(range(13)), "", "0",
                        b"\x00", {0: 1}, range(2), {0}]

    def test_order_of_errors(self):
        many = [(BadArms, "arms", bad_arms()), (BadMany, "many", bad_integers(0, 12))]
        look = many + [(BadOrder, "look", self.bad_looks())]
        place = look + [(BadPlace, "place", bad_integers(0, 5) + [10 ** 5000])]
        good = {"many": 6, "look": (2, 3), "place": 5}
        sure = Sure(1, {0: (0, 1)}, {2: (1, 2)})
        for work in (judge_rank, is_sure, open_ranks, sure.shows, Open((0, 1), (0, 1)).shows):
            check_error_order(self, work, good, place)
        check_error_order(self, sure_places, {"many": 6, "look": (2, 3)}, look)
        for look in [(), (0,), (1,), (0, 1, 2, 3, 4, 5), (2, 5, 1, 4), (3, 4, 5), (5, 4, 3)]:
            open_ranks(6, look, 0)
        for work in (judge_rank, is_sure, open_ranks, sure.shows, Open((0, 1), (0, 1)).shows):
            for arms in ALL_ARMS:
                for place in bad_integers(0, -1):
                    check_raises(self, BadPlace, work, 0, (), place, arms=arms)
                check_raises(self, BadOrder, work, 0, (0,), 0, arms=arms)

    def test_looks_that_do_not_fit(self):
        for many in range(6):
            for arms in ALL_ARMS:
                for look in all_looks(many):
                    if fits(look, arms):
                        sure_places(many, look, arms=arms)
                    else:
                        check_raises(self, BadOrder, sure_places, many, look, arms=arms)
                        check_raises(self, BadOrder, judge_rank, many, look, 0, arms=arms)

    def test_order_of_errors_of_fewest_looks(self):
        shows = Fewest((), {}).shows
        for work in (fewest_looks, shows):
            full = [(BadArms, "arms", bad_arms()), (BadRow, "row", bad_row_values()),
                    (NotHeap, "row", [(1, 0, 2), [0, 2, 1, 1], tuple(range(12))[::-1]]),
                    (BadOrder, "row", [(1, 2, 3), (0, 0, 1), (0, 2, 3), (-1, 0, 1), (5,) * 12, tuple(range(1, 13))]),
                    (BadPlace, "place", bad_integers(0, 2))]
            check_error_order(self, work, {"row": (0, 2, 1), "place": 2}, full)
            check_heap_errors(self, work, 0)
            check_row_errors(self, work, None)
            for many in range(8, 13):
                for place in bad_integers(0, many - 1):
                    check_raises(self, BadPlace, work, list(range(many)), place)
            for place in bad_integers(0, -1):
                check_raises(self, BadPlace, work, (), place)
            check_raises(self, BadOrder, work, (0, 0), 5)
            check_raises(self, TooLarge, work, range(8) and list(range(8)), 7)

    def test_bad_arms(self):
        calls = [(judge_rank, (3, (), 0)), (is_sure, (3, (), 0)), (open_ranks, (3, (), 0)), (sure_places, (3, ())),
                 (fewest_looks, ((0, 1), 0)), (Sure(0, {}, {}).shows, (3, (), 0)), (Open((), ()).shows, (3, (), 0)),
                 (Fewest((), {}).shows, ((0, 1), 0))]
        for work, args in calls:
            check_arms_errors(self, work, *args, worse=[(None,) * len(args)])
            self.assertRaises(TypeError, work, *args, 2)

    def test_arguments_are_left_alone(self):
        row = [0, 2, 1]
        found = fewest_looks(row, 2)
        self.assertIs(found.shows(row, 2), True)
        self.assertEqual(row, [0, 2, 1])
        for work, args in ((open_ranks, (6, (2, 3), 1)),):
            first = work(*args)
            first.clear()
            self.assertEqual(work(*args), [1, 2, 3])
        first = judge_rank(5, (2, 1), 2)
        first.ahead.clear()
        first.behind.clear()
        self.assertIs(judge_rank(5, (2, 1), 2).shows(5, (2, 1), 2), True)
        found.opens.clear()
        self.assertIs(fewest_looks(row, 2).shows(row, 2), True)


if __name__ == "__main__":
    unittest.main()

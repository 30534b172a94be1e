"""Promise 16: knowledges, questions, Known."""

import functools
import itertools
import random
import unittest

from heaprows.errors import BadArms, BadGoal, BadMany
from heaprows.knowing import Known, fewest_questions, know
from helpers import (
    ALL_ARMS, bad_arms, bad_integers, check_arms_errors, check_equality, check_error_order, check_example,
    check_raises, check_time, check_values, full_heaps, heap_like, not_integers)

EXAMPLE = """
>>> from heaprows.knowing import Known, fewest_questions, know
>>> [[fewest_questions(many, None) for many in (1, 2, 3, 4, 5)], [fewest_questions(4, goal, arms=3) for goal in (0, 1, 2, 3, None)], know(3, None).shows(3, None), Known(0, {}, {}).shows(3, None)]
[[0, 0, 1, 2, 3], [0, 2, 3, 2, 3], True, False]
"""

LIMITS = [(many, goal, arms) for many in range(1, 6) for arms in ALL_ARMS for goal in [None] + list(range(many))]


def is_enough(heaps, goal):
    return len(heaps) == 1 or goal is not None and len({heap.index(goal) for heap in heaps}) == 1


def divided(heaps, one, other):
    """Both parts of a knowledge by a question, of which one may be empty."""
    return (tuple(heap for heap in heaps if heap[one] < heap[other]),
            tuple(heap for heap in heaps if not heap[one] < heap[other]))


@functools.lru_cache(maxsize=None)
def least(heaps, goal):
    """The least number of questions, by a look through all questions that divide the knowledge."""
    if is_enough(heaps, goal):
        return 0
    pairs = [divided(heaps, one, other) for one, other in itertools.combinations(range(len(heaps[0])), 2)]
    return 1 + min(max(least(part, goal) for part in parts) for parts in pairs if all(parts))


def can_do(heaps, goal, number):
    """Whether so many questions are enough, also with questions that divide nothing."""
    if is_enough(heaps, goal):
        return True
    if number == 0:
        return False
    pairs = [divided(heaps, one, other) for one, other in itertools.combinations(range(len(heaps[0])), 2)]
    return any(all(can_do(part, goal, number - 1) for part in parts if part) for parts in pairs)


def is_knowledge(thing, many, arms):
    if not thing or list(thing) != sorted(set(thing)):
        return False
    return all(len(heap) == many and sorted(heap) == list(range(many)) and heap_like(heap, arms) for heap in thing)


def is_known(number, plan, bounds, many, goal, arms):
    first = full_heaps(many, arms)
    if not all(is_knowledge(thing, many, arms) for thing in [*plan, *bounds]):
        return False
    for question, told in plan.values():
        if told < 0 or question is not None and question not in itertools.combinations(range(many), 2):
            return False
    if first not in plan or plan[first][1] > number or number > 0 and bounds.get(first, 0) < number:
        return False
    for knowledge, (question, told) in plan.items():
        if not is_enough(knowledge, goal):
            if question is None:
                return False
            for part in divided(knowledge, *question):
                if part and (part not in plan or plan[part][1] >= told):
                    return False
    for knowledge, told in bounds.items():
        if told > 0:
            if is_enough(knowledge, goal):
                return False
            for one, other in itertools.combinations(range(many), 2):
                if all(bounds.get(part, 0) < told - 1 for part in divided(knowledge, one, other) if part):
                    return False
    return True


class KnowingTest(unittest.TestCase):
    def test_example(self):
        check_example(self, EXAMPLE)

    def test_all_goals(self):
        for many, goal, arms in LIMITS:
            expected = least(full_heaps(many, arms), goal)
            check_values(self, check_time(self, fewest_questions, many, goal, arms=arms), expected)
            found = check_time(self, know, many, goal, arms=arms)
            check_values(self, found.number, expected)
            self.assertIs(check_time(self, found.shows, many, goal, arms=arms), True)
            self.assertTrue(is_known(found.number, found.plan, found.bounds, many, goal, arms))
            self.assertTrue(all(type(told) is int for _, told in found.plan.values()))
            self.assertTrue(all(type(told) is int for told in found.bounds.values()))
            self.assertTrue(all(type(pair) is tuple for pair in found.plan.values()))

    def test_with_questions_that_divide_nothing(self):
        for many, goal, arms in LIMITS:
            if many < 5:
                number = fewest_questions(many, goal, arms=arms)
                self.assertTrue(can_do(full_heaps(many, arms), goal, number))
                self.assertFalse(number and can_do(full_heaps(many, arms), goal, number - 1))

    def test_known_numbers(self):
        # With four arms, four children of the root are put in order by comparing them.
        check_values(self, [fewest_questions(5, goal, arms=4) for goal in (0, 1, 4, None)], [0, 3, 3, 5])
        check_values(self, [fewest_questions(5, goal, arms=1) for goal in (0, 1, 4, None)], [0, 0, 0, 0])
        check_values(self, [fewest_questions(many, None, arms=3) for many in range(1, 6)], [0, 0, 1, 3, 4])

    def test_two_arms_by_default(self):
        for many, goal, arms in LIMITS:
            if arms == 2:
                self.assertEqual(know(many, goal), know(many, goal, arms=2))
                self.assertEqual(fewest_questions(many, goal), fewest_questions(many, goal, arms=2))
                self.assertIs(know(many, goal).shows(many, goal), True)
        self.assertEqual(know(goal=2, many=4, arms=3), know(4, 2, arms=3))
        self.assertEqual(fewest_questions(goal=2, many=4, arms=3), 3)


class KnownTest(unittest.TestCase):
    def check(self, number, plan, bounds, many, goal, arms):
        expected = is_known(number, plan, bounds, many, goal, arms)
        found = Known(number, plan, bounds).shows(many, goal, arms=arms)
        self.assertIs(found, expected, (number, plan, bounds, many, goal, arms))
        return found

    def test_changed(self):
        draw = random.Random(1)
        shown = refused = 0
        for many, goal, arms in LIMITS:
            good = know(many, goal, arms=arms)
            told = (many, goal, arms)
            for number in (good.number - 1, good.number + 1, 0, 1, -1, 10 ** 30):
                self.check(number, good.plan, good.bounds, *told)
            often = 1 if len(good.plan) < 30 else 0.1
            for plan in self.changed_plans(good.plan, many, arms, draw):
                if draw.random() > often:
                    continue
                found = self.check(good.number, plan, good.bounds, *told)
                shown, refused = shown + found, refused + (not found)
            for bounds in self.changed_bounds(good.bounds, many, arms, draw):
                if draw.random() > often:
                    continue
                found = self.check(good.number, good.plan, bounds, *told)
                shown, refused = shown + found, refused + (not found)
        self.assertGreater(min(shown, refused), 200)

    def some(self, things, draw):
        things = list(things)
        return things if len(things) < 9 else draw.sample(things, 6) + things[-2:]

    def changed_plans(self, plan, many, arms, draw):
        yield {key: plan[key] for key in reversed(list(plan))}
        yield {}
        for key in self.some(plan, draw):
            question, number = plan[key]
            yield {other: plan[other] for other in plan if other != key}
            for wrong in [None] + [pair for pair in itertools.product(range(-1, many + 1), repeat=2)]:
                if many < 4 or draw.random() < 0.3:
                    yield {**plan, key: (wrong, number)}
            for wrong in ((), (0,), (0, 1, 2), (0, 10 ** 30)):
                yield {**plan, key: (wrong, number)}
            for wrong in (number - 1, number + 1, -1, 0, 10 ** 30):
                yield {**plan, key: (question, wrong)}
        for extra in self.extra_keys(many, arms, draw):
            for pair in ((None, 0), ((0, 1), 0), ((0, 1), 9), (None, 9), ((many - 2, many - 1), 9)):
                yield {**plan, extra: pair}

    def changed_bounds(self, bounds, many, arms, draw):
        yield {key: bounds[key] for key in reversed(list(bounds))}
        yield {}
        yield {key: bounds[key] for key in bounds if bounds[key]}
        for key in self.some(bounds, draw):
            yield {other: bounds[other] for other in bounds if other != key}
            for wrong in (bounds[key] - 1, bounds[key] + 1, 0, 1, -1, -10 ** 30, 10 ** 30):
                yield {**bounds, key: wrong}
        for extra in self.extra_keys(many, arms, draw):
            for number in (0, 1, 2, -1):
                yield {**bounds, extra: number}

    def extra_keys(self, many, arms, draw):
        """Other knowledges, and tuples that are no knowledges."""
        heaps = full_heaps(many, arms)
        for _ in range(4):
            yield tuple(sorted(draw.sample(heaps, draw.randint(1, len(heaps)))))
        yield from [(), heaps[:1] * 2, heaps + heaps[-1:], heaps[::-1] + heaps[:1], ((),), (heaps[0] + (many,),),
                    (heaps[0][:-1],), (heaps[0][:-1] + (-1,),), ((0,) * many,), (tuple(range(many))[::-1] + (0,),),
                    (heaps[0][:-1] + (10 ** 30,),)]
        if len(heaps) > 1:
            yield heaps[::-1]
            yield (heaps[0], tuple(range(many))[::-1])

    def test_all_small_plans_and_bounds(self):
        for many, arms in ((2, 2), (3, 1), (3, 2)):
            heaps = full_heaps(many, arms)
            subsets = [part for size in (1, 2) for part in itertools.combinations(heaps, size)]
            questions = [None] + list(itertools.combinations(range(many), 2))
            pairs = [None] + list(itertools.product(questions, range(2)))
            for goal in (None, many - 1):
                good = know(many, goal, arms=arms)
                for chosen in itertools.product(pairs, repeat=len(subsets)):
                    plan = {part: pair for part, pair in zip(subsets, chosen) if pair}
                    self.check(good.number, plan, good.bounds, many, goal, arms)
                for chosen in itertools.product((None, -1, 0, 1, 2), repeat=len(subsets)):
                    bounds = {part: number for part, number in zip(subsets, chosen) if number is not None}
                    for number in (0, 1, 2):
                        self.check(number, good.plan, bounds, many, goal, arms)

    def test_questions_that_are_enough_may_be_asked(self):
        one, other = (0, 1, 2), (0, 2, 1)
        plan = {(one, other): ((1, 2), 1), (one,): ((0, 1), 0), (other,): (None, 0)}
        self.assertIs(Known(1, plan, {(one, other): 1}).shows(3, None), True)
        self.assertIs(Known(1, {**plan, (one,): ((1, 0), 0)}, {(one, other): 1}).shows(3, None), False)
        self.assertIs(Known(1, {**plan, (one, other): ((0, 1), 1)}, {(one, other): 1}).shows(3, None), False)
        self.assertIs(Known(2, plan, {(one, other): 2}).shows(3, None), False)
        self.assertIs(Known(1, plan, {(one, other): 1, (one,): -7, (other,): 0}).shows(3, None), True)
        self.assertIs(Known(1, plan, {(one, other): 1, (one,): -7, (other,): -1}).shows(3, None), False)
        self.assertIs(Known(1, plan, {(one, other): 1, (one,): 1}).shows(3, None), False)
        self.assertIs(Known(0, {((0, 1),): (None, 0)}, {((0, 1),): -5}).shows(2, None), True)

    def test_kinds(self):
        one, other = (0, 1, 2), (0, 2, 1)
        plan, bounds = {(one, other): ((1, 2), 1), (one,): (None, 0), (other,): (None, 0)}, {(one, other): 1}
        self.assertIs(Known(1, plan, bounds).shows(3, None), True)
        for wrong in (Known(True, plan, bounds), Known(None, plan, bounds), Known(1, plan, {(one, other): True}),
                      Known(1, {**plan, (one, other): ((1, 2), True)}, bounds),
                      Known(1, {**plan, (one, other): ((True, 2), 1)}, bounds),
                      Known(1, {**plan, (one, other): ([1, 2], 1)}, bounds),
                      Known(1, {**plan, (one, other): [(1, 2), 1]}, bounds),
                      Known(1, {**plan, (one, other): ((1, 2), 1, 1)}, bounds),
                      Known(1, {(one, other): ((1, 2), 1), ((False, 1, 2),): (None, 0), (other,): (None, 0)}, bounds),
                      Known(1, plan, {((0, True, 2), other): 1}), Known(1, {**plan, 5: (None, 0)}, bounds),
                      Known(1, {**plan, "ab": (None, 0)}, bounds), Known(1, plan, {**bounds, None: 0}),
                      Known(1, plan, {**bounds, ("012",): 0}), Known(1, plan, {**bounds, (0, 1, 2): 0})):
            self.assertIs(wrong.shows(3, None), False)

    def test_current_attributes(self):
        found = know(3, None)
        found.number = 2
        self.assertIs(found.shows(3, None), False)
        found.number = 1
        found.bounds.clear()
        self.assertIs(found.shows(3, None), False)
        found.bounds = know(3, None).bounds
        self.assertIs(found.shows(3, None), True)
        found.plan.clear()
        self.assertIs(found.shows(3, None), False)

    def test_attributes_and_equality(self):
        plan, bounds = {((0,),): (None, 0)}, {((0,),): 0}
        known = Known(0, plan, bounds)
        plan.clear()
        bounds.clear()
        check_values(self, vars(known), {"number": 0, "plan": {((0,),): (None, 0)}, "bounds": {((0,),): 0}})
        check_values(self, vars(Known(bounds={}, plan={}, number=1)), {"number": 1, "plan": {}, "bounds": {}})
        check_equality(self, Known, (1, {((0,),): (None, 0)}, {((0,),): 0}),
                       [(0, {((0,),): (None, 0)}, {((0,),): 0}), (1, {}, {((0,),): 0}),
                        (1, {((0,),): (None, 0)}, {}), (1, {((0,),): (None, 1)}, {((0,),): 0})])

    def test_returned_things_are_new(self):
        first = know(4, None, arms=3)
        first.plan.clear()
        first.bounds.clear()
        self.assertIs(know(4, None, arms=3).shows(4, None, arms=3), True)


class KnowingErrorsTest(unittest.TestCase):
    def bad_goals(self, many):
        return [thing for thing in not_integers() if thing is not None] + [-1, many, 10 ** 30, -10 ** 30, 10 ** 5000]

    def test_order_of_errors(self):
        many = [(BadArms, "arms", bad_arms()), (BadMany, "many", bad_integers(1, 5) + [10 ** 5000, 12])]
        for work in (know, fewest_questions, Known(0, {}, {}).shows):
            check_error_order(self, work, {"many": 4, "goal": None}, many + [(BadGoal, "goal", self.bad_goals(4))])
            for number, arms in itertools.product(range(1, 6), ALL_ARMS):
                for goal in [None] + list(range(number)):
                    work(number, goal, arms=arms)
                for goal in self.bad_goals(number):
                    check_raises(self, BadGoal, work, number, goal, arms=arms)
            check_arms_errors(self, work, 3, None, worse=[(6, None), (3, 3), (None, "")])
            self.assertRaises(TypeError, work, 3, None, 2)


if __name__ == "__main__":
    unittest.main()

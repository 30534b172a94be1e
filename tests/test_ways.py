"""Promise 18: states, deeds, histories, routes, distances."""

import functools
import itertools
import random
import unittest

from heaprows.errors import BadArms, BadDeed, BadPool, BadState
from heaprows.ways import Route, after, deeds, distance, farthest, route, states
from helpers import (
    ALL_ARMS, Odd, bad_arms, bad_integers, check_arms_errors, check_equality, check_error_order, check_example,
    check_raises, check_time, check_values, heap_like, not_integers, step_down, step_up)

EXAMPLE = """
>>> from heaprows.ways import Route, after, deeds, distance, farthest, route, states
>>> [states(2), deeds(3, (0, 2)), after(4, (0, 3, 1), [('take',), ('push', 0)]), route(3, (0, 2), (2,)).deeds, distance(3, (0, 1, 2), (0, 2, 1)), farthest(2), Route([], {}).shows(2, (), ())]
[[(), (0,), (0, 1), (1,)], [('push', 1), ('take',)], (0, 3, 1), [('take',)], 2, 3, False]
"""

POOLS = range(1, 6)


def done(state, deed, arms):
    if deed == ("take",):
        return step_down(state[-1:] + state[1:-1], 0, arms)[0] if len(state) > 1 else ()
    return step_up(state + deed[1:], len(state), arms)[0]


def deeds_of(pool, state):
    return [("push", key) for key in range(pool) if key not in state] + [("take",)] * (len(state) > 0)


@functools.lru_cache(maxsize=None)
def walk(pool, arms):
    """From each state that is reached from the empty heap, all deeds and the states to which they lead."""
    found, fresh = {}, [()]
    while fresh:
        state = fresh.pop()
        if state not in found:
            found[state] = {deed: done(state, deed, arms) for deed in deeds_of(pool, state)}
            fresh += found[state].values()
    return found


@functools.lru_cache(maxsize=None)
def distances(pool, arms, first):
    """The distance of each state from the first one, ring by ring."""
    found, ring, number = {}, {first}, 0
    while ring:
        found.update({state: number for state in ring})
        number += 1
        ring = {other for state in ring for other in walk(pool, arms)[state].values()} - set(found)
    return found


def is_route(found, levels, pool, one, other, arms):
    """What [18] asks of a Route, in its words."""
    known = walk(pool, arms)
    state = one
    for deed in found:
        if deed not in known[state]:
            return False
        state = known[state][deed]
    if state != other or levels.get(one) != 0:
        return False
    for state, level in levels.items():
        if level < len(found):
            if state not in known or state == other:
                return False
            for reached in known[state].values():
                if reached not in levels or levels[reached] - level > 1:
                    return False
    return True


class StatesTest(unittest.TestCase):
    def test_example(self):
        check_example(self, EXAMPLE)

    def test_walk_from_the_empty_heap(self):
        for pool in POOLS:
            for arms in ALL_ARMS:
                known = walk(pool, arms)
                check_values(self, check_time(self, states, pool, arms=arms), sorted(known))
                rows = [row for size in range(pool + 1) for row in itertools.permutations(range(pool), size)]
                self.assertEqual(sorted(known), sorted(row for row in rows if heap_like(row, arms)))
                for state in known:
                    check_values(self, deeds(pool, state, arms=arms), sorted(known[state]))
                    check_values(self, after(pool, state, [], arms=arms), state)
                    for deed, reached in known[state].items():
                        check_values(self, after(pool, state, [deed], arms=arms), reached)
                        check_values(self, after(pool, state, (deed,), arms=arms), reached)

    def test_histories(self):
        draw = random.Random(1)
        for pool in POOLS:
            for arms in ALL_ARMS:
                known = walk(pool, arms)
                for _ in range(20):
                    begun = state = draw.choice(sorted(known))
                    history = []
                    for _ in range(draw.randint(0, 30)):
                        history.append(draw.choice(sorted(known[state])))
                        state = known[state][history[-1]]
                    check_values(self, after(pool, begun, history, arms=arms), state)
                    at = draw.randint(0, len(history))
                    for wrong in (("push", pool), ("drop",)):
                        changed = history[:at] + [wrong] + history[at:]
                        error = check_raises(self, BadDeed, after, pool, begun, changed, arms=arms)
                        check_values(self, error.index, at)

    def test_two_arms_by_default(self):
        check_values(self, [states(4), deeds(4, (0, 2, 1)), after(4, (0, 3, 1), [("take",)]), farthest(4)],
                     [states(4, arms=2), deeds(4, (0, 2, 1), arms=2), after(4, (0, 3, 1), [("take",)], arms=2),
                      farthest(4, arms=2)])
        self.assertEqual(route(4, (0, 2, 1), (1, 3)), route(4, (0, 2, 1), (1, 3), arms=2))
        self.assertEqual(distance(4, (0, 2, 1), (1, 3)), distance(4, (0, 2, 1), (1, 3), arms=2))
        self.assertIs(route(4, (0, 2, 1), (1, 3)).shows(4, (0, 2, 1), (1, 3)), True)
        check_values(self, [states(pool=1), deeds(state=(), pool=1), after(history=[], state=(), pool=1),
                            distance(other=(0,), one=(), pool=1), farthest(pool=1)],
                     [[(), (0,)], [("push", 0)], (), 1, 1])
        self.assertEqual(route(other=(0,), one=(), pool=1).deeds, [("push", 0)])


class RouteTest(unittest.TestCase):
    def check_route(self, pool, one, other, arms):
        expected = distances(pool, arms, one)[other]
        check_values(self, distance(pool, one, other, arms=arms), expected)
        found = check_time(self, route, pool, one, other, arms=arms)
        self.assertEqual(len(found.deeds), expected)
        self.assertEqual((type(found.deeds), type(found.levels)), (list, dict))
        self.assertTrue(all(type(deed) is tuple for deed in found.deeds))
        check_values(self, after(pool, one, found.deeds, arms=arms), other)
        self.assertTrue(is_route(found.deeds, found.levels, pool, one, other, arms))
        self.assertIs(check_time(self, found.shows, pool, one, other, arms=arms), True)

    def test_all_pairs_of_small_pools(self):
        for pool in (1, 2, 3):
            for arms in ALL_ARMS:
                for one, other in itertools.product(walk(pool, arms), repeat=2):
                    self.check_route(pool, one, other, arms)

    def test_drawn_pairs(self):
        draw = random.Random(2)
        for pool in (4, 5):
            for arms in ALL_ARMS:
                known = sorted(walk(pool, arms))
                for _ in range(25):
                    self.check_route(pool, draw.choice(known), draw.choice(known), arms)

    def test_farthest(self):
        for pool in POOLS:
            for arms in ALL_ARMS:
                expected = max(max(distances(pool, arms, one).values()) for one in walk(pool, arms))
                check_values(self, check_time(self, farthest, pool, arms=arms), expected)

    def check_shows(self, found, levels, pool, one, other, arms):
        expected = is_route(found, levels, pool, one, other, arms)
        self.assertIs(Route(found, levels).shows(pool, one, other, arms=arms), expected, (found, levels, one, other))
        self.assertIs(Route(tuple(found), levels).shows(pool, one, other, arms=arms), expected)
        return expected

    def test_changed(self):
        draw = random.Random(3)
        shown = refused = 0
        for pool in (1, 2, 3, 4):
            for arms in ALL_ARMS:
                known = sorted(walk(pool, arms))
                for _ in range(6):
                    one, other = draw.choice(known), draw.choice(known)
                    good = route(pool, one, other, arms=arms)
                    told = (pool, one, other, arms)
                    for changed in self.changed_deeds(good.deeds, pool, draw):
                        expected = self.check_shows(changed, good.levels, *told)
                        shown, refused = shown + expected, refused + (not expected)
                    for levels in self.changed_levels(good, known, pool):
                        expected = self.check_shows(good.deeds, levels, *told)
                        shown, refused = shown + expected, refused + (not expected)
                    for _ in range(5):
                        self.check_shows(good.deeds, good.levels, pool, draw.choice(known), draw.choice(known), arms)
        self.assertGreater(min(shown, refused), 500)

    def changed_deeds(self, found, pool, draw):
        """Other deeds: one left out, put in, changed, and longer ways to the same state."""
        wrong = [("take",), ("push",), ("take", 0), ("push", pool), ("push", -1), ("push", 10 ** 30), (), ("pop",),
                 ("push", 0, 0), ("",), ("take", "take")] + [("push", key) for key in range(pool)]
        yield []
        yield found + [("push", 0), ("take",)]
        for at in range(len(found) + 1):
            yield found[:at] + found[at + 1:]
            for deed in draw.sample(wrong, 6):
                yield found[:at] + [deed] + found[at:]
                yield found[:at] + [deed] + found[at + 1:]

    def changed_levels(self, good, known, pool):
        levels, many = good.levels, len(good.deeds)
        yield {state: levels[state] for state in reversed(list(levels))}
        yield {state: level for state, level in levels.items() if level <= many}
        yield {state: level for state, level in levels.items() if level < many}
        yield {state: min(level, many) for state, level in levels.items()}
        yield {}
        for state in known:
            yield {other: levels[other] for other in levels if other != state}
            for level in (levels.get(state, 0) - 1, levels.get(state, 0) + 1, 0, -1, many, many - 1, 10 ** 30):
                yield {**levels, state: level}
        for extra in ((pool,), (0, 0), (-1,), (1, 0), (10 ** 30,), (0,) * 13, tuple(range(13))):
            if extra not in known:
                for level in (-1, 0, many - 1, many, many + 1):
                    yield {**levels, extra: level}

    def test_all_small_levels(self):
        for arms in (1, 4):
            known = sorted(walk(2, arms))
            for one, other in (((), (1,)), ((0,), (0, 1)), ((1,), (1,)), ((0, 1), (1,))):
                for size in range(4):
                    for found in itertools.product((("push", 0), ("push", 1), ("take",)), repeat=size):
                        if size < 3 or found[0] == ("take",):
                            for chosen in itertools.product((None, 0, 1, 2), repeat=len(known)):
                                levels = {state: level for state, level in zip(known, chosen) if level is not None}
                                expected = is_route(found, levels, 2, one, other, arms)
                                self.assertIs(Route(found, levels).shows(2, one, other, arms=arms), expected)

    def test_kinds(self):
        good = Route([("push", 1)], {(): 0, (0,): 1, (1,): 1})
        self.assertIs(good.shows(2, (), (1,)), True)
        for wrong in (Route([("push", True)], good.levels), Route([["push", 1]], good.levels),
                      Route([("push", None)], good.levels), Route([(1, "push")], good.levels),
                      Route([None], good.levels), Route(["take"], good.levels), Route([("push", 10 ** 5000)], good.levels),
                      Route(good.deeds, {(): False, (0,): 1, (1,): 1}), Route(good.deeds, {(): 0, (0,): True, (1,): 1}),
                      Route(good.deeds, {(): 0, (0,): None, (1,): 1}), Route(good.deeds, {(): 0, (0,): 1, (1,): "1"}),
                      Route(good.deeds, {**good.levels, (False, True): 0}), Route(good.deeds, {**good.levels, 5: 0}),
                      Route(good.deeds, {**good.levels, "a": -1}), Route(good.deeds, {**good.levels, None: 0})):
            self.assertIs(wrong.shows(2, (), (1,)), False)
        # What is not a state is of no account from the number of deeds on.
        for extra in ((True, 5), 5, "a", None, (9,), (1, 0)):
            self.assertIs(Route(good.deeds, {**good.levels, extra: 1}).shows(2, (), (1,)), True)
            self.assertIs(Route(good.deeds, {**good.levels, extra: 0}).shows(2, (), (1,)), False)

    def test_no_deeds(self):
        for pool in POOLS:
            for state in states(pool):
                found = route(pool, state, state)
                self.assertEqual(found.deeds, [])
                self.assertIs(Route([], {state: 0}).shows(pool, state, state), True)
                self.assertIs(Route([], {state: 1}).shows(pool, state, state), False)
                self.assertIs(Route([], {}).shows(pool, state, state), False)

    def test_current_attributes(self):
        found = route(3, (0, 2), (2,))
        found.deeds.append(("take",))
        self.assertIs(found.shows(3, (0, 2), (2,)), False)
        found.deeds = (("take",),)
        self.assertIs(found.shows(3, (0, 2), (2,)), True)
        found.levels[(0, 2)] = 1
        self.assertIs(found.shows(3, (0, 2), (2,)), False)

    def test_attributes_and_equality(self):
        told, levels = [("take",)], {(0,): 0}
        found = Route(told, levels)
        told.clear()
        levels.clear()
        check_values(self, vars(found), {"deeds": [("take",)], "levels": {(0,): 0}})
        check_values(self, vars(Route(levels={}, deeds=())), {"deeds": [], "levels": {}})
        check_equality(self, Route, ([("take",)], {(): 0}), [([("push", 0)], {(): 0}), ([], {(): 0}),
                                                             ([("take",)], {}), ([("take",)], {(): 1})])

    def test_returned_things_are_new(self):
        for work, args in ((states, (3,)), (deeds, (3, (0, 2)))):
            first = work(*args)
            kept = list(first)
            first.clear()
            self.assertEqual(work(*args), kept)
        first = route(3, (), (2,))
        first.deeds.clear()
        first.levels.clear()
        self.assertIs(route(3, (), (2,)).shows(3, (), (2,)), True)
        history = [("push", 1), ("take",)]
        after(3, (), history)
        self.assertEqual(history, [("push", 1), ("take",)])


class WaysErrorsTest(unittest.TestCase):
    def bad_states(self):
        """Values that are no states of a pool of four with two arms."""
        wrong = [thing for thing in not_integers() if thing not in ((), (1,)) or type(thing) is not tuple]
        return wrong + [0, [0], [], [0, 1], (4,), (-1,), (0, 4), (0, 0), (1, 0), (0, 2, 3, 1), (2, 3, 1), (True,),
                        (False,), (0, True), (10 ** 30,), (-10 ** 30,), (10 ** 5000,), (None,), ("0",), ((0,),),
                        (0, [1]), "", "01", b"\x00", {0: 1}, {0}, range(1), (0,) * 13, tuple(range(13))]

    def bad_deeds(self):
        """Values that are no deeds that are possible with (0, 2, 1) in a pool of four."""
        return not_integers() + [0, "take", "push", ["take"], ["push", 3], (), ("push",), ("take", 0), ("take", None),
                                 ("push", 3, 3), ("push", 0), ("push", 1), ("push", 2), ("push", 4), ("push", -1),
                                 ("push", True), ("push", None), ("push", "3"), ("push", (3,)), ("push", 10 ** 30),
                                 ("push", 10 ** 5000), ("Push", 3), ("take ",), ("drop",), (3, "push"), (None,),
                                 (b"take",), ("push", [3]), (["take"],), (True,), ({},), (Odd(),),
                                 (Odd(), 3), ("push", Odd())]

    def test_order_of_errors(self):
        pools = [(BadArms, "arms", bad_arms()), (BadPool, "pool", bad_integers(1, 5) + [10 ** 5000])]
        for work in (states, farthest):
            check_error_order(self, work, {"pool": 5}, pools)
        one = pools + [(BadState, "state", self.bad_states())]
        check_error_order(self, deeds, {"pool": 4, "state": (0, 2, 1, 3)}, one)
        wrong = [thing for thing in not_integers() if not isinstance(thing, (list, tuple))]
        wrong += [0, "take", [None], [("take",), ("push", 9)], (("push",),)]
        check_error_order(self, after, {"pool": 4, "state": (0, 2, 1), "history": [("take",)]},
                          one + [(BadDeed, "history", wrong)])
        both = pools + [(BadState, "one", self.bad_states()), (BadState, "other", self.bad_states())]
        for work in (route, distance, Route([], {}).shows):
            check_error_order(self, work, {"pool": 4, "one": (0, 2, 1), "other": (3,)}, both)

    def test_states_of_each_pool(self):
        for pool in POOLS:
            for arms in ALL_ARMS:
                known = walk(pool, arms)
                for size in range(5):
                    for thing in itertools.product(range(-1, pool + 1), repeat=size):
                        if size < 4 or sum(thing) % 7 == 0:
                            if thing in known:
                                deeds(pool, thing, arms=arms)
                            else:
                                check_raises(self, BadState, deeds, pool, thing, arms=arms)

    def test_bad_deeds(self):
        for deed in self.bad_deeds():
            for before in ([], [("take",), ("push", 0)], [("push", 3), ("take",), ("take",), ("push", 0), ("take",),
                                                          ("take",), ("push", 0), ("push", 2), ("push", 1)]):
                before = [step for step in before]
                state = after(4, (0, 2, 1), before)
                if deed == ("push", 3) or sorted(state) != [0, 1, 2]:
                    continue
                for history in (before + [deed], tuple(before) + (deed,), before + [deed, deed, None]):
                    error = check_raises(self, BadDeed, after, 4, (0, 2, 1), history)
                    check_values(self, error.index, len(before))
        for thing in not_integers() + [0, 5, "take", {0: ("take",)}]:
            if not isinstance(thing, (list, tuple)):
                check_values(self, check_raises(self, BadDeed, after, 4, (0, 2, 1), thing).index, None)
        check_values(self, check_raises(self, BadDeed, after, 4, (), [("take",)]).index, 0)
        check_values(self, check_raises(self, BadDeed, after, 4, (0,), [("take",), ("take",)]).index, 1)

    def test_bad_arms(self):
        calls = [(states, (2,)), (deeds, (2, ())), (after, (2, (), [])), (route, (2, (), ())), (distance, (2, (), ())),
                 (farthest, (2,)), (Route([], {}).shows, (2, (), ()))]
        for work, args in calls:
            check_arms_errors(self, work, *args, worse=[(None,) * len(args), (6,) + args[1:]])
            self.assertRaises(TypeError, work, *args, 2)


if __name__ == "__main__":
    unittest.main()

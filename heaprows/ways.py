"""Ways: the fewest pushes and takings that lead from one heap of a few integers to another one."""

from heaprows.checks import check_arms, is_integer, is_integer_from, parts_of
from heaprows.counting import all_heaps
from heaprows.errors import BadDeed, BadPool, BadState
from heaprows.heaps import push, take
from heaprows.rows import is_heap

MOST_POOL = 5


class Route:
    """Fewest deeds that lead from a state to another one, and levels: no fewer deeds do."""

    def __init__(self, deeds, levels):
        self.deeds = list(deeds)
        self.levels = {state: levels[state] for state in levels}

    def __eq__(self, other):
        return isinstance(other, Route) and self.deeds == other.deeds and self.levels == other.levels

    def shows(self, pool, one, other, *, arms=2):
        """Return whether the deeds lead from one state to the other, and the levels rise by at most 1 by a deed."""
        check_states(pool, one, other, arms)
        try:
            reached = after(pool, one, self.deeds, arms=arms)
        except BadDeed:
            return False
        if reached != other or not all([is_integer(level) for level in self.levels.values()]):
            return False
        early = [state for state, level in self.levels.items() if level < len(self.deeds)]
        if not all([is_state(state, pool, arms) and state != other for state in early]):
            return False
        return self.levels.get(one) == 0 and all([does_rise(state, self.levels, pool, arms) for state in early])


def states(pool, *, arms=2):
    """Return the ascending list of all states."""
    check_pool(pool, arms)
    sizes = list(range(pool + 1))
    return sorted([heap for size in sizes for keys in parts_of(list(range(pool)), size)
                   for heap in all_heaps(keys, arms=arms)])


def deeds(pool, state, *, arms=2):
    """Return the list of all deeds that are possible in a state, in order."""
    check_state(pool, state, arms)
    pushes = [("push", key) for key in range(pool) if key not in state]
    if state:
        return pushes + [("take",)]
    return pushes


def after(pool, state, history, *, arms=2):
    """Return the state after the deeds of a history."""
    check_state(pool, state, arms)
    if not isinstance(history, (list, tuple)):
        raise BadDeed(None)
    reached = state
    for index, deed in enumerate(history):
        if not is_possible(deed, pool, reached):
            raise BadDeed(index)
        reached = state_after(reached, deed, arms)
    return reached


def route(pool, one, other, *, arms=2):
    """Return a Route from one state to another one."""
    check_states(pool, one, other, arms)
    histories = histories_from(one, steps_of(pool, arms))
    return Route(histories[other], {state: len(histories[state]) for state in histories})


def distance(pool, one, other, *, arms=2):
    """Return the least number of deeds that lead from one state to another one."""
    return len(route(pool, one, other, arms=arms).deeds)


def farthest(pool, *, arms=2):
    """Return the greatest distance of two states."""
    check_pool(pool, arms)
    steps = steps_of(pool, arms)
    return max([len(history) for state in steps for history in histories_from(state, steps).values()])


def check_pool(pool, arms):
    """Raise BadArms or BadPool if the arms or a pool argument are wrong."""
    check_arms(arms)
    if not is_integer_from(pool, 1, MOST_POOL):
        raise BadPool("not an integer from 1 to 5")


def check_state(pool, state, arms):
    """Raise BadArms, BadPool or BadState if an argument is wrong."""
    check_pool(pool, arms)
    if not is_state(state, pool, arms):
        raise BadState("not a state")


def check_states(pool, one, other, arms):
    """Raise BadArms, BadPool or BadState if an argument of route is wrong."""
    check_state(pool, one, arms)
    check_state(pool, other, arms)


def is_state(thing, pool, arms):
    """Return whether a value of any kind is a state."""
    if not isinstance(thing, tuple) or not all([is_integer_from(key, 0, pool - 1) for key in thing]):
        return False
    return len(set(thing)) == len(thing) and is_heap(thing, arms=arms)


def is_possible(thing, pool, state):
    """Return whether a value of any kind is a deed that is possible in a state."""
    if not isinstance(thing, tuple) or len(thing) == 0 or not isinstance(thing[0], str):
        return False
    if len(thing) == 1:
        return thing[0] == "take" and len(state) > 0
    if len(thing) != 2 or thing[0] != "push":
        return False
    return is_integer_from(thing[1], 0, pool - 1) and thing[1] not in state


def state_after(state, deed, arms):
    """Return the state after a deed that is possible."""
    if deed == ("take",):
        return take(state, arms=arms)[1].row
    return push(state, deed[1], arms=arms).row


def steps_of(pool, arms):
    """Return a dict from each state to the list of the pairs of a possible deed and of the state after it."""
    return {state: [(deed, state_after(state, deed, arms)) for deed in deeds(pool, state, arms=arms)]
            for state in states(pool, arms=arms)}


def histories_from(first, steps):
    """Return a dict from each state to a tuple of as few deeds as possible that lead to it from the first one."""
    histories = {first: ()}
    fresh = [first]
    while fresh:
        state = fresh.pop(0)
        for deed, reached in steps[state]:
            if reached not in histories:
                histories[reached] = histories[state] + (deed,)
                fresh.append(reached)
    return histories


def does_rise(state, levels, pool, arms):
    """Return whether each deed leads from a state to one in a dict of levels whose level is greater by at most 1."""
    reached = [state_after(state, deed, arms) for deed in deeds(pool, state, arms=arms)]
    return all([other in levels and levels[other] <= levels[state] + 1 for other in reached])

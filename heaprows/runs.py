"""Runs: ways to write the keys of an input by means of a room, and the ascending runs that come about."""

from heaprows.checks import MOST_ROOM, check_different, check_many, check_room, is_integer, is_key, row_of
from heaprows.errors import BadNumber, BadOrder


class Cuts:
    """A way with at most a number of runs."""

    def __init__(self, written):
        self.written = tuple(written)

    def __eq__(self, other):
        return isinstance(other, Cuts) and self.written == other.written

    def shows(self, room, row, number):
        """Return whether it is such a way."""
        given = given_of(room, row, number)
        return is_way(self.written, room, given) and len(runs_in(self.written)) <= number


class Needs:
    """A level for each key, such that no way writes a key in an earlier run."""

    def __init__(self, levels):
        self.levels = dict(levels)

    def __eq__(self, other):
        return isinstance(other, Needs) and self.levels == other.levels

    def shows(self, room, row, number):
        """Return whether exactly all keys have such levels, and one of them is greater than the number."""
        given = given_of(room, row, number)
        if not all([is_integer(key) for key in self.levels]) or sorted(self.levels) != sorted(given):
            return False
        if not all([is_integer(level) and level >= 1 for level in self.levels.values()]):
            return False
        if not any([level > number for level in self.levels.values()]):
            return False
        return all([level == 1 or len(held_back(key, self.levels, given)) >= room
                    for key, level in self.levels.items()])


def by_replacement(room, row):
    """Return the list of the runs of the way by replacement."""
    check_room(room)
    return runs_in(written_by_replacement(room, input_of(row)))


def fewest_runs(room, row):
    """Return the least number of runs of a way."""
    return len(by_replacement(room, row))


def runs_of(room, row, written):
    """Return the list of the runs of a way."""
    check_room(room)
    if not is_way(written, room, input_of(row)):
        raise BadOrder("not a way")
    return runs_in(written)


def judge_runs(room, row, number):
    """Return a Cuts or a Needs."""
    given = given_of(room, row, number)
    # No way has fewer runs. The numbers of the runs are levels: when a run begins, all held keys are less than the key
    # written last, so for each key of the run there are as many keys before it as the room that it must let pass.
    written = written_by_replacement(room, given)
    runs = runs_in(written)
    if len(runs) <= number:
        return Cuts(written)
    return Needs({key: at + 1 for at, run in enumerate(runs) for key in run})


def least_room(row, number):
    """Return the least room with which there is a way with at most a number of runs, or None."""
    given = input_of(row)
    check_number(number)
    for room in range(1, MOST_ROOM + 1):
        if fewest_runs(room, given) <= number:
            return room
    return None


def many_of_one(many, room):
    """Return the number of orders of so many items that have a way with at most one run."""
    check_many(many)
    check_room(room)
    number = 1
    # Before each item there must be fewer greater items than the room.
    for at in range(many):
        number *= min(at + 1, room)
    return number


def input_of(row):
    """Return an input argument as a tuple; raise BadRow or SameKeys if it is not a row of different keys."""
    given = row_of(row)
    check_different(given)
    return given


def check_number(number):
    """Raise BadNumber if a value is not an integer of at least 0."""
    if not is_integer(number) or number < 0:
        raise BadNumber("not an integer of at least 0")


def given_of(room, row, number):
    """Return the input of the arguments of judge_runs, as a tuple; raise an error if one of them is wrong."""
    check_room(room)
    given = input_of(row)
    check_number(number)
    return given


def written_by_replacement(room, given):
    """Return the tuple of the keys of an input in the order in which they are written by replacement."""
    held = list(given[:room])
    written = []
    for at in range(len(given)):
        fitting = [key for key in held if not written or key > written[-1]]
        written.append(min(fitting or held))
        held.remove(written[-1])
        held.extend(list(given[room + at:room + at + 1]))
    return tuple(written)


def is_way(thing, room, given):
    """Return whether a value of any kind is a way for an input."""
    if not isinstance(thing, (list, tuple)) or len(thing) != len(given):
        return False
    held = list(given[:room])
    for at, key in enumerate(thing):
        if not is_key(key) or key not in held:
            return False
        held.remove(key)
        held.extend(list(given[room + at:room + at + 1]))
    return True


def runs_in(written):
    """Return the list of the runs of keys that are written in this order, each a tuple."""
    runs = []
    for key in written:
        if runs and key > runs[-1][-1]:
            runs[-1] = runs[-1] + (key,)
        else:
            runs.append((key,))
    return runs


def held_back(key, levels, given):
    """Return the list of the keys before a key that have its level, or the one below and are greater, or more."""
    least = (levels[key] - 1, key)
    return [other for other in given[:given.index(key)] if (levels[other], other) > least]

"""Fronts: the places from which the least keys of a heap are taken, and the places that tell what these keys are."""

from heaprows.checks import GREATEST_KEY, check_few, is_integer, is_key, is_set_of_places, parts_of
from heaprows.errors import BadSet
from heaprows.rows import heap_of, is_heap
from heaprows.standing import check_count
from heaprows.trees import Tree

MOST_SEARCHED = 8


class Front:
    """The places that are taken, in order, and those that wait."""

    def __init__(self, taken, waiting):
        self.taken = tuple(taken)
        self.waiting = tuple(waiting)

    def __eq__(self, other):
        return isinstance(other, Front) and self.taken == other.taken and self.waiting == other.waiting

    def __len__(self):
        return len(self.taken + self.waiting)


class Settled:
    """The least keys, which are the same for all heaps with the same keys at some places."""

    def __init__(self, least):
        self.least = list(least)

    def __eq__(self, other):
        return isinstance(other, Settled) and self.least == other.least

    def shows(self, row, count, places, *, arms=2):
        """Return whether the places settle the count, and these are the least keys."""
        found = judge_places(row, count, places, arms=arms)
        return found == self and all([is_integer(key) for key in self.least])


class Unsettled:
    """A heap with the same keys at some places and with other least keys."""

    def __init__(self, row):
        self.row = tuple(row)

    def __eq__(self, other):
        return isinstance(other, Unsettled) and self.row == other.row

    def shows(self, row, count, places, *, arms=2):
        """Return whether the row is such a heap."""
        heap = heap_of_places(row, count, places, arms)
        if len(self.row) != len(heap) or not all([is_key(key) for key in self.row]):
            return False
        if not is_heap(self.row, arms=arms) or any([self.row[place] != heap[place] for place in places]):
            return False
        return sorted(self.row)[:count] != sorted(heap)[:count]


class Least:
    """A smallest set of places that settles a count, and the row of an Unsettled for each one with a place fewer."""

    def __init__(self, places, rows):
        self.places = tuple(places)
        self.rows = {fewer: tuple(rows[fewer]) for fewer in rows}

    def __eq__(self, other):
        return isinstance(other, Least) and self.places == other.places and self.rows == other.rows

    def shows(self, row, count, *, arms=2):
        """Return whether the set settles the count, and exactly all with one place fewer have such a row."""
        heap = counted_heap_of(row, count, arms)
        check_few(heap, MOST_SEARCHED)
        many = len(heap)
        if not all([is_set_of_places(places, many) for places in [self.places] + list(self.rows)]):
            return False
        if sorted(self.rows) != sorted(parts_of(list(range(many)), len(self.places) - 1)):
            return False
        if not does_settle(heap, count, self.places, arms=arms):
            return False
        return all([Unsettled(self.rows[places]).shows(heap, count, places, arms=arms) for places in self.rows])


def front(row, count, *, arms=2):
    """Return the Front of a heap and a count."""
    heap = counted_heap_of(row, count, arms)
    tree = Tree.of(heap, arms=arms)
    taken = []
    waiting = list(tree)[:1]
    while len(taken) < count:
        if taken:
            waiting.extend(list(tree[taken[-1]]))
        least = min([(heap[place], place) for place in waiting])
        taken.append(least[1])
        waiting.remove(least[1])
    return Front(taken, sorted(waiting))


def least_keys(row, count, *, arms=2):
    """Return the ascending list of so many least keys of a heap."""
    return sorted(counted_heap_of(row, count, arms))[:count]


def judge_places(row, count, places, *, arms=2):
    """Return a Settled or an Unsettled."""
    heap = heap_of_places(row, count, places, arms)
    least = sorted(heap)[:count]
    # Each heap with these keys lies between these two at every place, and so do its least keys.
    for other in (row_with_least(heap, places, arms), row_with_greatest(heap, places, arms)):
        if sorted(other)[:count] != least:
            return Unsettled(other)
    return Settled(least)


def does_settle(row, count, places, *, arms=2):
    """Return whether a set of places settles a count for a heap."""
    return isinstance(judge_places(row, count, places, arms=arms), Settled)


def fewest_places(row, count, *, arms=2):
    """Return a Least for a heap."""
    heap = counted_heap_of(row, count, arms)
    check_few(heap, MOST_SEARCHED)
    size = 0
    good = settling_sets(heap, count, size, arms)
    while not good:
        size += 1
        good = settling_sets(heap, count, size, arms)
    fewer = parts_of(list(range(len(heap))), size - 1)
    return Least(good[0], {places: judge_places(heap, count, places, arms=arms).row for places in fewer})


def counted_heap_of(row, count, arms):
    """Return the heap of the arguments of front, as a tuple; raise an error if one of them is wrong."""
    heap = heap_of(row, arms)
    check_count(count, len(heap))
    return heap


def heap_of_places(row, count, places, arms):
    """Return the heap of the arguments of judge_places, as a tuple; raise an error if one of them is wrong."""
    heap = counted_heap_of(row, count, arms)
    if not is_set_of_places(places, len(heap)):
        raise BadSet("not an ascending tuple of places")
    return heap


def row_with_least(heap, places, arms):
    """Return the heap with the same keys at some places and the least possible ones elsewhere."""
    tree = Tree.of(heap, arms=arms)
    row = []
    for place in tree:
        if place in places:
            row.append(heap[place])
        elif place == 0:
            row.append(-GREATEST_KEY)
        else:
            row.append(row[tree.parent(place)])
    return tuple(row)


def row_with_greatest(heap, places, arms):
    """Return the heap with the same keys at some places and the greatest possible ones elsewhere."""
    tree = Tree.of(heap, arms=arms)
    row = [GREATEST_KEY] * len(heap)
    for place in reversed(list(tree)):
        if place in places:
            row[place] = heap[place]
        elif tree[place]:
            row[place] = min([row[child] for child in tree[place]])
    return tuple(row)


def settling_sets(heap, count, size, arms):
    """Return the list of all sets of so many places that settle a count for a heap."""
    return [places for places in parts_of(list(range(len(heap))), size) if does_settle(heap, count, places, arms=arms)]

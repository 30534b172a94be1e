"""Pushes: keys pushed one after the other, pushes undone, and the orders of pushes that give a heap."""

from heaprows.checks import check_few, check_place
from heaprows.errors import BadPlace
from heaprows.heaps import check_filled, push
from heaprows.rows import different_heap_of, is_heap
from heaprows.sifts import row_before
from heaprows.trees import Tree

MOST_COUNTED = 8
MOST_LISTED = 7


class Pushed:
    """The heap that pushes give, the number of times two keys changed places, and the number of looks."""

    def __init__(self, row, changes, looks):
        self.row = tuple(row)
        self.changes = changes
        self.looks = looks

    def __eq__(self, other):
        return (isinstance(other, Pushed) and self.row == other.row and self.changes == other.changes
                and self.looks == other.looks)


class Undone:
    """The heap before a push, and the key that was pushed."""

    def __init__(self, row, key):
        self.row = tuple(row)
        self.key = key

    def __eq__(self, other):
        return isinstance(other, Undone) and self.row == other.row and self.key == other.key

    def shows(self, row, place, *, arms=2):
        """Return whether pushing the key to the row, a heap, gives a heap with the key at a place."""
        heap, _ = heap_and_way_below(row, place, arms)
        if len(self.row) != len(heap) - 1 or not is_heap(self.row, arms=arms):
            return False
        sift = push(self.row, self.key, arms=arms)
        return sift.row == heap and sift.way[-1] == place


class Stuck:
    """A place of the last way, below the one of the push, and a brother with a lesser key."""

    def __init__(self, place, other):
        self.place = place
        self.other = other

    def __eq__(self, other):
        return isinstance(other, Stuck) and self.place == other.place and self.other == other.other

    def shows(self, row, place, *, arms=2):
        """Return whether the two places are such places."""
        heap, below = heap_and_way_below(row, place, arms)
        tree = Tree.of(heap, arms=arms)
        if self.place not in tree or self.other not in tree or self.place not in below:
            return False
        return tree.parent(self.other) == tree.parent(self.place) and heap[self.other] < heap[self.place]


def push_all(keys, *, arms=2):
    """Return the Pushed of keys that are pushed one after the other, beginning without keys."""
    tree = Tree.of(keys, arms=arms)
    heap = ()
    changes = 0
    looks = 0
    for place in tree:
        sift = push(heap, keys[place], arms=arms)
        heap = sift.row
        changes += len(sift.way) - 1
        looks += sift.looks
    return Pushed(heap, changes, looks)


def most_pushed(many, *, arms=2):
    """Return the greatest number of changes by pushes of so many keys."""
    tree = Tree(many, arms=arms)
    # Keys that descend all go up to the root.
    return sum([tree.depth(place) for place in tree])


def undo_push(row, place, *, arms=2):
    """Return an Undone or a Stuck for a place of the last way of a heap."""
    heap, below = heap_and_way_below(row, place, arms)
    tree = Tree.of(heap, arms=arms)
    for lower in below:
        other = min(tree[tree.parent(lower)], key=lambda child: heap[child])
        if other != lower:
            return Stuck(lower, other)
    before = row_before(heap, below[::-1] + (place,))
    return Undone(before[:-1], heap[place])


def last_places(row, *, arms=2):
    """Return the ascending list of all places at which a push can be undone."""
    heap = different_heap_of(row, arms)
    check_filled(heap)
    return [place for place in last_way(heap, arms) if isinstance(undo_push(heap, place, arms=arms), Undone)]


def how_many_orders(row, *, arms=2):
    """Return the number of orders of a heap."""
    heap = different_heap_of(row, arms)
    check_few(heap, MOST_COUNTED)
    # Many orders lead back to the same heap with fewer keys, so each such heap is looked at once.
    numbers = {heap: 1}
    for _ in heap:
        numbers = numbers_before(numbers, arms)
    return numbers[()]


def orders_of(row, *, arms=2):
    """Return the ascending list of the orders of a heap."""
    heap = different_heap_of(row, arms)
    check_few(heap, MOST_LISTED)
    ends = {heap: [()]}
    for _ in heap:
        ends = ends_before(ends, arms)
    return sorted(ends[()])


def last_way(heap, arms):
    """Return the way to the last place of a heap."""
    return Tree.of(heap, arms=arms).way_to(len(heap) - 1)


def heap_and_way_below(row, place, arms):
    """Return a heap argument of undo_push, as a tuple, and the part of its last way below a place."""
    heap = different_heap_of(row, arms)
    check_filled(heap)
    check_place(place, len(heap))
    way = last_way(heap, arms)
    if place not in way:
        raise BadPlace("not a place of the last way")
    return heap, way[way.index(place) + 1:]


def undone_pushes(heap, arms):
    """Return the list of the Undone for each place at which a push can be undone."""
    return [undo_push(heap, place, arms=arms) for place in last_places(heap, arms=arms)]


def numbers_before(numbers, arms):
    """Return the number of orders from each heap with one key fewer, for a dict of those from heaps with more."""
    fewer = {}
    for heap in numbers:
        for undone in undone_pushes(heap, arms):
            fewer[undone.row] = fewer.get(undone.row, 0) + numbers[heap]
    return fewer


def ends_before(ends, arms):
    """Return the ends of orders from each heap with one key fewer, for a dict of those from heaps with more."""
    fewer = {}
    for heap in ends:
        for undone in undone_pushes(heap, arms):
            longer = [(undone.key,) + end for end in ends[heap]]
            fewer[undone.row] = fewer.get(undone.row, []) + longer
    return fewer

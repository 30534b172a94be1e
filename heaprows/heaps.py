"""Operations on heaps: pushing a key, taking out the least one, putting a key for it, and building."""

from heaprows.checks import MOST_PLACES, check_key
from heaprows.errors import Empty, Full
from heaprows.rows import heap_of
from heaprows.sifts import Sift, least_child, sift_down, sift_up
from heaprows.trees import Tree


class Built:
    """The heap that is built from a row, the stops, and the numbers of changes and of looks."""

    def __init__(self, row, stops, changes, looks):
        self.row = tuple(row)
        self.stops = tuple([tuple(stop) for stop in stops])
        self.changes = changes
        self.looks = looks

    def __eq__(self, other):
        return (isinstance(other, Built) and self.row == other.row and self.stops == other.stops
                and self.changes == other.changes and self.looks == other.looks)


def push(row, key, *, arms=2):
    """Return the Sift of a key that is pushed to a heap."""
    heap = heap_of(row, arms)
    check_key(key)
    if len(heap) == MOST_PLACES:
        raise Full("the heap has twelve keys")
    return sift_up(heap + (key,), len(heap), arms=arms)


def take(row, *, arms=2):
    """Return the key that is taken out of a heap, and the Sift of the last key, which goes down from the root."""
    heap = filled_heap_of(row, arms)
    if len(heap) == 1:
        return heap[0], Sift((), (), 0)
    return heap[0], sift_down(heap[-1:] + heap[1:-1], 0, arms=arms)


def take_by_hole(row, *, arms=2):
    """Return the key that is taken out of a heap, and the Sift of the last key, which goes up from the hole."""
    heap = filled_heap_of(row, arms)
    if len(heap) == 1:
        return heap[0], Sift((), (), 0)
    keys = list(heap[:-1])
    tree = Tree.of(keys, arms=arms)
    looks = 0
    hole = 0
    while tree[hole]:
        child = least_child(keys, tree[hole])
        looks += len(tree[hole]) - 1
        keys[hole] = keys[child]
        hole = child
    keys[hole] = heap[-1]
    sift = sift_up(keys, hole, arms=arms)
    return heap[0], Sift(sift.row, sift.way, looks + sift.looks)


def put_for(row, key, *, arms=2):
    """Return the least key of a heap, and the Sift of the key that is put for it."""
    heap = heap_of(row, arms)
    check_key(key)
    check_filled(heap)
    return heap[0], sift_down((key,) + heap[1:], 0, arms=arms)


def build(row, *, arms=2):
    """Return the Built of a row."""
    tree = Tree.of(row, arms=arms)
    heap = tuple(row)
    stops = []
    changes = 0
    looks = 0
    for place in reversed(list(tree)):
        if tree[place]:
            sift = sift_down(heap, place, arms=arms)
            heap = sift.row
            stops.append((place, sift.way[-1]))
            changes += len(sift.way) - 1
            looks += sift.looks
    return Built(heap, stops, changes, looks)


def filled_heap_of(row, arms):
    """Return a heap argument as a tuple; raise Empty if there are no keys."""
    heap = heap_of(row, arms)
    check_filled(heap)
    return heap


def check_filled(heap):
    """Raise Empty if a heap has no keys."""
    if not heap:
        raise Empty("there are no keys")

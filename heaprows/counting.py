"""Counts of heaps: how many there are of some keys, and which."""

from math import factorial

from heaprows.checks import check_few, check_index
from heaprows.rows import heap_of
from heaprows.trees import Tree

MOST_KEYS = 8


def how_many(many, *, arms=2):
    """Return the number of heaps of so many different keys."""
    tree = Tree(many, arms=arms)
    product_of_sizes = 1
    for place in tree:
        product_of_sizes = product_of_sizes * tree.size(place)
    return factorial(many) // product_of_sizes


def all_heaps(keys, *, arms=2):
    """Return the ascending list of all heaps of some keys."""
    tree = Tree.of(keys, arms=arms)
    check_few(keys, MOST_KEYS)
    heaps = [()]
    for place in tree:
        # Each beginning is extended by ascending keys, so the list stays ascending.
        heaps = [heap + (key,) for heap in heaps for key in next_keys(keys, heap, tree.parent(place))]
    return heaps


def next_keys(keys, heap, parent):
    """Return the ascending list of the keys, of those that a heap does not have yet, that can come next in it."""
    left = list(keys)
    for used in heap:
        left.remove(used)
    return [key for key in sorted(set(left)) if parent is None or key >= heap[parent]]


def heap_at(keys, index, *, arms=2):
    """Return the heap with an index in the list of all heaps of some keys."""
    heaps = all_heaps(keys, arms=arms)
    check_index(index, len(heaps))
    return heaps[index]


def index_of(row, *, arms=2):
    """Return the index of a heap in the list of all heaps of its keys."""
    heap = heap_of(row, arms)
    return all_heaps(heap, arms=arms).index(heap)

"""Rows of keys: their faults, fallen pairs and ranks, and which of them are heaps."""

from heaprows.checks import check_different, is_full, row_of
from heaprows.errors import NotHeap
from heaprows.trees import Tree


def is_heap(row, *, arms=2):
    """Return whether a row is a heap."""
    return not faults(row, arms=arms)


def faults(row, *, arms=2):
    """Return the ascending list of the places whose key is less than the key of their parent."""
    tree = Tree.of(row, arms=arms)
    return [place for place in tree if place > 0 and row[place] < row[tree.parent(place)]]


def falls(row, *, arms=2):
    """Return the ascending list of the pairs of a place and a place below it with a lesser key."""
    tree = Tree.of(row, arms=arms)
    return [(place, below) for place in tree for below in tree.subtree(place) if row[below] < row[place]]


def ranks(row):
    """Return the tuple of the ranks of all places."""
    keys = row_of(row)
    pairs = [(key, place) for place, key in enumerate(keys)]
    ascending = sorted(pairs)
    return tuple([ascending.index(pair) for pair in pairs])


def heap_of(row, arms):
    """Return a heap argument as a tuple; raise NotHeap if it is a row with a fault."""
    wrong = faults(row, arms=arms)
    if wrong:
        raise NotHeap(wrong[0])
    return tuple(row)


def different_heap_of(row, arms):
    """Return a heap argument as a tuple; raise SameKeys if some of its keys are equal."""
    heap = heap_of(row, arms)
    check_different(heap)
    return heap


def is_full_heap(row, many, arms):
    """Return whether a list or tuple of integers is a heap of those from 0 to many - 1, each once."""
    return is_full(row, many) and is_heap(row, arms=arms)

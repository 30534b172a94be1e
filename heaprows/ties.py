"""Taking out with equal keys: whether both ways of taking out bring each key to the same place."""

from heaprows.checks import check_few
from heaprows.counting import all_heaps
from heaprows.heaps import filled_heap_of, take, take_by_hole
from heaprows.rows import is_heap
from heaprows.trees import Tree

MOST_KEYS = 7


class Together:
    """All heaps of some keys, in each of which both ways bring each key to the same place."""

    def __init__(self, heaps):
        self.heaps = [tuple(row) for row in heaps]

    def __eq__(self, other):
        return isinstance(other, Together) and self.heaps == other.heaps

    def shows(self, keys, *, arms=2):
        """Return whether these are all heaps of the keys, and both ways agree in each of them."""
        heaps = heaps_of(keys, arms)
        if {tuple(row) for row in self.heaps} != set(heaps):
            return False
        return all([do_ways_agree(heap, arms) for heap in heaps])


class Apart:
    """A heap of some keys in which the two ways bring a key to different places."""

    def __init__(self, row):
        self.row = tuple(row)

    def __eq__(self, other):
        return isinstance(other, Apart) and self.row == other.row

    def shows(self, keys, *, arms=2):
        """Return whether the row is a heap of the keys in which the two ways do not agree."""
        check_keys(keys, arms)
        if sorted(self.row) != sorted(keys) or not is_heap(self.row, arms=arms):
            return False
        return not do_ways_agree(self.row, arms)


def names_behind(row, *, arms=2):
    """Return, for taking out and for taking out by the hole, the tuple of the places where the keys were before."""
    heap = filled_heap_of(row, arms)
    return names_after(take(heap, arms=arms)[1], arms), names_after(take_by_hole(heap, arms=arms)[1], arms)


def compare_ways(keys, *, arms=2):
    """Return a Together or an Apart."""
    heaps = heaps_of(keys, arms)
    for heap in heaps:
        if not do_ways_agree(heap, arms):
            return Apart(heap)
    return Together(heaps)


def are_together(keys, *, arms=2):
    """Return whether both ways bring each key to the same place in all heaps of some keys."""
    return isinstance(compare_ways(keys, arms=arms), Together)


def check_keys(keys, arms):
    """Raise BadArms, BadRow or TooLarge if the arms or a keys argument are wrong."""
    Tree.of(keys, arms=arms)
    check_few(keys, MOST_KEYS)


def heaps_of(keys, arms):
    """Return the ascending list of all heaps of a keys argument."""
    check_keys(keys, arms)
    return all_heaps(keys, arms=arms)


def do_ways_agree(heap, arms):
    """Return whether both ways of taking out of a heap bring each key to the same place; so they do without keys."""
    if not heap:
        return True
    by_root, by_hole = names_behind(heap, arms=arms)
    return by_root == by_hole


def names_after(sift, arms):
    """Return the tuple of the places where the keys were before the taking that ended with a sift."""
    names = list(range(len(sift.row)))
    if names:
        # By the hole, the keys below the place where the last key stays went up and came back. So in both ways just
        # the keys on the way to this place are now one place further up.
        way = Tree.of(sift.row, arms=arms).way_to(sift.way[-1])
        for upper, lower in zip(way, way[1:]):
            names[upper] = lower
        names[way[-1]] = len(names)
    return tuple(names)

"""Taking out, without ties: takings undone, and the looks of both ways of taking out."""

from heaprows.checks import MOST_PLACES, check_few, check_key, check_place
from heaprows.counting import all_heaps
from heaprows.errors import BadKey, Full
from heaprows.heaps import check_filled, filled_heap_of, take, take_by_hole
from heaprows.rows import different_heap_of, is_heap
from heaprows.sifts import row_before
from heaprows.trees import Tree

MOST_COUNTED = 8


class Before:
    """The heap before a taking."""

    def __init__(self, row):
        self.row = tuple(row)

    def __eq__(self, other):
        return isinstance(other, Before) and self.row == other.row

    def shows(self, row, least, place, *, arms=2):
        """Return whether taking out of the row, a heap, leaves a heap with its last key at a place."""
        heap = heap_after(row, least, place, arms)
        if len(self.row) != len(heap) + 1 or not is_heap(self.row, arms=arms):
            return False
        key, sift = take(self.row, arms=arms)
        return key == least and sift.row == heap and sift.way[-1] == place


class Over:
    """The place at which a key is now that would have been over the last key, but is greater."""

    def __init__(self, place, key):
        self.place = place
        self.key = key

    def __eq__(self, other):
        return isinstance(other, Over) and self.place == other.place and self.key == other.key

    def shows(self, row, least, place, *, arms=2):
        """Return whether place and key are those of such a key."""
        heap = heap_after(row, least, place, arms)
        over = place_over_next(heap, arms)
        return self.place == over and self.key == heap[over] and heap[over] > heap[place]


def undo_take(row, least, place, *, arms=2):
    """Return a Before or an Over for a place of a heap and a key that is less than all of its keys."""
    heap = heap_after(row, least, place, arms)
    over = place_over_next(heap, arms)
    # The taking changed the key at this place only if the last key went down through it. Then that key is less than
    # the last one, now and before.
    if heap[over] > heap[place]:
        return Over(over, heap[over])
    before = row_before(heap, Tree.of(heap, arms=arms).way_to(place))
    return Before((least,) + before[1:] + before[:1])


def places_behind(row, *, arms=2):
    """Return the ascending list of all places at which a taking can be undone."""
    heap = heap_with_room(row, arms)
    if not heap:
        return []
    over = place_over_next(heap, arms)
    return [place for place, key in enumerate(heap) if heap[over] <= key]


def looks_of(row, *, arms=2):
    """Return the pair of the numbers of looks that taking out of a heap and taking out by the hole need."""
    heap = filled_heap_of(row, arms)
    return take(heap, arms=arms)[1].looks, take_by_hole(heap, arms=arms)[1].looks


def looks_over(many, *, arms=2):
    """Return the pair of the sums of these numbers over all heaps of so many different keys."""
    places = list(Tree(many, arms=arms))
    check_few(places, MOST_COUNTED)
    looks = [looks_of(heap, arms=arms) for heap in all_heaps(places, arms=arms) if heap]
    return sum([down for down, _ in looks]), sum([by_hole for _, by_hole in looks])


def heap_with_room(row, arms):
    """Return, as a tuple, a heap argument with different keys; raise Full if there are twelve."""
    heap = different_heap_of(row, arms)
    if len(heap) == MOST_PLACES:
        raise Full("there are twelve keys")
    return heap


def heap_after(row, least, place, arms):
    """Return a heap argument of undo_take, as a tuple; raise an error if that or another argument is wrong."""
    heap = heap_with_room(row, arms)
    check_filled(heap)
    check_key(least)
    if least >= heap[0]:
        raise BadKey("not less than all keys of the heap")
    check_place(place, len(heap))
    return heap


def place_over_next(heap, arms):
    """Return the place of a heap that is the parent of the first place after it."""
    return Tree(len(heap) + 1, arms=arms).parent(len(heap))

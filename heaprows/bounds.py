"""Told bounds: which heaps of ranks keep within a least and a greatest rank for each place."""

from heaprows.checks import MOST_PLACES, check_arms, check_few, is_integer_from
from heaprows.counting import all_heaps
from heaprows.errors import BadBounds
from heaprows.rows import is_full_heap
from heaprows.trees import Tree

MOST_COUNTED = 8


class Fitted:
    """A heap of ranks within bounds."""

    def __init__(self, row):
        self.row = tuple(row)

    def __eq__(self, other):
        return isinstance(other, Fitted) and self.row == other.row

    def shows(self, bounds, *, arms=2):
        """Return whether the row is a heap of ranks within the bounds."""
        check_bounds(bounds, arms)
        return is_full_heap(self.row, len(bounds), arms) and is_within(self.row, bounds)


class Crowded:
    """More places than there are integers from first to last, all of which need a rank from there."""

    def __init__(self, first, last, places):
        self.first = first
        self.last = last
        self.places = tuple(places)

    def __eq__(self, other):
        return (isinstance(other, Crowded) and self.first == other.first and self.last == other.last
                and self.places == other.places)

    def shows(self, bounds, *, arms=2):
        """Return whether the places are different ones, too many, and need ranks from first to last."""
        inside = places_inside(told_bounds(bounds, arms=arms), self.first, self.last)
        if not all([is_integer_from(place, 0, len(bounds) - 1) and place in inside for place in self.places]):
            return False
        return len(set(self.places)) == len(self.places) and is_crowd(self.places, self.first, self.last)


def fit(bounds, *, arms=2):
    """Return a Fitted or a Crowded."""
    told = told_bounds(bounds, arms=arms)
    for first in sorted(set([least for least, _ in told])):
        for last in sorted(set([greatest for _, greatest in told])):
            places = places_inside(told, first, last)
            if is_crowd(places, first, last):
                return Crowded(first, last, places)
    return Fitted(most_urgent_first(told))


def can_fit(bounds, *, arms=2):
    """Return whether there is a heap of ranks within the bounds."""
    return isinstance(fit(bounds, arms=arms), Fitted)


def told_bounds(bounds, *, arms=2):
    """Return the list of the necessary bounds."""
    check_bounds(bounds, arms)
    tree = Tree(len(bounds), arms=arms)
    least = [pair[0] for pair in bounds]
    greatest = [pair[1] for pair in bounds]
    for place in tree:
        for child in tree[place]:
            least[child] = max(least[child], least[place] + 1)
    for place in reversed(list(tree)):
        for child in tree[place]:
            greatest[place] = min(greatest[place], greatest[child] - 1)
    return list(zip(least, greatest))


def ranks_within(bounds, *, arms=2):
    """Return a list with the ascending tuple of the ranks that each place has in heaps of ranks within the bounds."""
    check_bounds(bounds, arms)
    return [tuple([rank for rank in range(pair[0], pair[1] + 1) if can_have(bounds, place, rank, arms)])
            for place, pair in enumerate(bounds)]


def how_many_fit(bounds, *, arms=2):
    """Return the number of heaps of ranks within the bounds."""
    check_bounds(bounds, arms)
    check_few(bounds, MOST_COUNTED)
    return len([heap for heap in all_heaps(list(range(len(bounds))), arms=arms) if is_within(heap, bounds)])


def check_bounds(bounds, arms):
    """Raise BadArms if the arms are wrong, and BadBounds if a bounds argument is."""
    check_arms(arms)
    if not isinstance(bounds, (list, tuple)) or len(bounds) > MOST_PLACES:
        raise BadBounds(None)
    for place, pair in enumerate(bounds):
        if not is_pair_of_ranks(pair, len(bounds)):
            raise BadBounds(place)


def is_pair_of_ranks(thing, many):
    """Return whether a value of any kind is a pair of a least and a greatest rank of so many places."""
    if not isinstance(thing, tuple) or len(thing) != 2:
        return False
    least, greatest = thing
    return is_integer_from(least, 0, many - 1) and is_integer_from(greatest, least, many - 1)


def is_within(row, bounds):
    """Return whether each key of a row is within the bounds of its place."""
    return all([pair[0] <= key <= pair[1] for key, pair in zip(row, bounds)])


def places_inside(told, first, last):
    """Return the list of the places whose necessary bounds are both from first to last."""
    return [place for place, (least, greatest) in enumerate(told) if least >= first and greatest <= last]


def is_crowd(places, first, last):
    """Return whether some places are more than there are integers from first to last."""
    return len(places) > max(0, last - first + 1)


def most_urgent_first(told):
    """Return a heap of ranks, as a list, within necessary bounds that crowd no places."""
    # A parent begins no later and is more urgent than its children, so it has its rank before them. Where no places
    # are crowded, none of them comes too late in this way.
    row = [None] * len(told)
    for rank in range(len(told)):
        waiting = [place for place, (least, _) in enumerate(told) if row[place] is None and least <= rank]
        row[min(waiting, key=lambda place: told[place][1])] = rank
    return row


def can_have(bounds, place, rank, arms):
    """Return whether a place has a rank in some heap of ranks within the bounds."""
    narrow = list(bounds)
    narrow[place] = (rank, rank)
    return can_fit(narrow, arms=arms)

"""Building: the rows that are built into one heap, and how many changes and looks building needs."""

from heaprows.checks import check_different, check_few, check_index
from heaprows.counting import how_many
from heaprows.errors import BadStops
from heaprows.heaps import build
from heaprows.rows import different_heap_of
from heaprows.sifts import row_before
from heaprows.trees import Tree

MOST_LISTED = 7


class Hardest:
    """A row that needs the most looks when it is built, these looks, and the most that each key can need."""

    def __init__(self, row, looks, shares):
        self.row = tuple(row)
        self.looks = looks
        self.shares = dict(shares)

    def __eq__(self, other):
        return (isinstance(other, Hardest) and self.row == other.row and self.looks == other.looks
                and self.shares == other.shares)

    def shows(self, many, *, arms=2):
        """Return whether the row has so many different keys, and looks and shares are as they must be."""
        shares = most_looks(Tree(many, arms=arms))
        if len(self.row) != many or len(set(self.row)) < many or self.shares != shares:
            return False
        return self.looks == sum(shares.values()) and self.looks == build(self.row, arms=arms).looks


def code(row, *, arms=2):
    """Return the pair of the heap into which a row of different keys is built and of the stops."""
    made = build(row, arms=arms)
    check_different(row)
    return made.row, made.stops


def decode(row, stops, *, arms=2):
    """Return the row, a tuple, that is built into a heap with some stops."""
    heap = different_heap_of(row, arms)
    tree = Tree.of(heap, arms=arms)
    check_stops(stops, tree)
    return row_with(heap, stops, tree)


def how_many_rows(many, *, arms=2):
    """Return the number of rows that are built into one heap of so many different keys."""
    tree = Tree(many, arms=arms)
    number = 1
    for place in tree:
        number = number * tree.size(place)
    return number


def rows_of(row, *, arms=2):
    """Return the list of the rows that are built into a heap, in the order of their stops."""
    heap = different_heap_of(row, arms)
    check_few(heap, MOST_LISTED)
    tree = Tree.of(heap, arms=arms)
    all_stops = [()]
    for place in places_that_stop(tree):
        all_stops = [stops + ((place, stop),) for stops in all_stops for stop in tree.subtree(place)]
    return [row_with(heap, stops, tree) for stops in all_stops]


def stops_at(many, index, *, arms=2):
    """Return the stops with an index in their order."""
    check_index(index, how_many_rows(many, arms=arms))
    tree = Tree(many, arms=arms)
    stops = []
    left = index
    # The last stop changes fastest in their order.
    for place in reversed(list(places_that_stop(tree))):
        below = tree.subtree(place)
        left, at = divmod(left, len(below))
        stops.append((place, below[at]))
    return tuple(stops[::-1])


def by_changes(many, *, arms=2):
    """Return the list of the numbers of rows that need 0, 1, 2 and so on changes when they are built."""
    tree = Tree(many, arms=arms)
    costs = [[tree.depth(stop) - tree.depth(place) for stop in tree.subtree(place)] for place in tree]
    return numbers_by_sum(costs, how_many(many, arms=arms))


def by_looks(many, *, arms=2):
    """Return the list of the numbers of rows that need 0, 1, 2 and so on looks when they are built."""
    tree = Tree(many, arms=arms)
    costs = [[looks_to(tree, place, stop) for stop in tree.subtree(place)] for place in tree]
    return numbers_by_sum(costs, how_many(many, arms=arms))


def hardest(many, *, arms=2):
    """Return a Hardest."""
    tree = Tree(many, arms=arms)
    shares = most_looks(tree)
    stops = [(place, hardest_stop(tree, place)) for place in places_that_stop(tree)]
    return Hardest(row_with(list(tree), stops, tree), sum(shares.values()), shares)


def places_that_stop(tree):
    """Return the list of the places with children, from the last one on."""
    return [place for place in reversed(list(tree)) if tree[place]]


def check_stops(stops, tree):
    """Raise BadStops if a value is not the stops of a row with this tree."""
    places = places_that_stop(tree)
    if not isinstance(stops, (list, tuple)) or len(stops) != len(places):
        raise BadStops(None)
    for index, place in enumerate(places):
        if not is_stop(stops[index], place, tree):
            raise BadStops(index)


def is_stop(thing, place, tree):
    """Return whether a value of any kind is a pair of a place and a place of its subtree."""
    if not isinstance(thing, tuple) or len(thing) != 2:
        return False
    begun, ended = thing
    return begun in tree and begun == place and ended in tree and ended in tree.subtree(place)


def row_with(heap, stops, tree):
    """Return the row, a tuple, that is built into a heap with these stops."""
    row = tuple(heap)
    for place, stop in reversed(list(stops)):
        row = row_before(row, way_down(tree, place, stop))
    return row


def way_down(tree, place, stop):
    """Return the way from a place to a place of its subtree."""
    return tree.way_to(stop)[tree.depth(place):]


def looks_to(tree, place, stop):
    """Return the number of looks that a key needs to go down from a place to its stop."""
    return sum([len(tree[at]) for at in way_down(tree, place, stop)])


def most_looks(tree):
    """Return a dict from each place with children to the greatest number of looks that its key can need."""
    return {place: looks_to(tree, place, hardest_stop(tree, place)) for place in tree if tree[place]}


def hardest_stop(tree, place):
    """Return the first stop for which a key needs the most looks."""
    return max(tree.subtree(place), key=lambda stop: looks_to(tree, place, stop))


def numbers_by_sum(costs, heaps):
    """Return how often each sum comes about if one cost is chosen from each list, for so many heaps."""
    # For each heap, the keys can stop anywhere in their subtrees, whatever the other keys do.
    numbers = [heaps]
    for choices in costs:
        numbers = numbers_with(numbers, choices)
    return numbers


def numbers_with(numbers, choices):
    """Return the numbers behind one more choice of a cost, for the list of those before it."""
    longer = [0] * (len(numbers) + max(choices))
    for total, number in enumerate(numbers):
        for cost in choices:
            longer[total + cost] += number
    return longer

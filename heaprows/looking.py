"""Looking: what looks at some places tell of the ranks of places in full heaps."""

from heaprows.checks import check_few, check_place, is_full, is_integer, parts_of
from heaprows.errors import BadOrder
from heaprows.rows import heap_of, is_full_heap
from heaprows.standing import row_by_order
from heaprows.trees import Tree

MOST_LOOKED = 7


class Sure:
    """The one rank that is open for a place, with chains to the place and from it that leave no other rank."""

    def __init__(self, rank, ahead, behind):
        self.rank = rank
        self.ahead = dict(ahead)
        self.behind = dict(behind)

    def __eq__(self, other):
        return (isinstance(other, Sure) and self.rank == other.rank and self.ahead == other.ahead
                and self.behind == other.behind)

    def shows(self, many, look, place, *, arms=2):
        """Return whether there are chains for all other places, and as many ahead as the rank."""
        tree = tree_of_look(many, look, place, arms)
        if not is_integer(self.rank) or len(self.ahead) != self.rank:
            return False
        others = list(self.ahead) + list(self.behind) + [place]
        if not is_full(others, many):
            return False
        leading = [is_chain(self.ahead[other], tree, look, (other, place)) for other in self.ahead]
        following = [is_chain(self.behind[other], tree, look, (place, other)) for other in self.behind]
        return all(leading + following)


class Open:
    """Two full heaps that agree with a look and have different keys at a place."""

    def __init__(self, one, other):
        self.one = tuple(one)
        self.other = tuple(other)

    def __eq__(self, other):
        return isinstance(other, Open) and self.one == other.one and self.other == other.other

    def shows(self, many, look, place, *, arms=2):
        """Return whether both are such heaps."""
        tree_of_look(many, look, place, arms)
        for row in (self.one, self.other):
            if not is_full_heap(row, many, arms) or not does_agree(row, look):
                return False
        return self.one[place] != self.other[place]


class Fewest:
    """A shortest look that tells of a heap and makes a rank sure, and an Open for each one with a place fewer."""

    def __init__(self, look, opens):
        self.look = look
        self.opens = {shorter: opens[shorter] for shorter in opens}

    def __eq__(self, other):
        return isinstance(other, Fewest) and self.look == other.look and self.opens == other.opens

    def shows(self, row, place, *, arms=2):
        """Return whether the look is such a look, and exactly all with one place fewer have an Open."""
        heap = looked_heap_of(row, place, arms)
        many = len(heap)
        if not all([is_look(look, Tree(many, arms=arms)) for look in [self.look] + list(self.opens)]):
            return False
        if not does_agree(heap, self.look) or not is_sure(many, self.look, place, arms=arms):
            return False
        if sorted(self.opens) != sorted(looks_that_tell(heap, len(self.look) - 1)):
            return False
        return all([is_open(thing, many, look, place, arms) for look, thing in self.opens.items()])


def judge_rank(many, look, place, *, arms=2):
    """Return a Sure or an Open."""
    tree = tree_of_look(many, look, place, arms)
    ahead = chains_to(tree, look, place)
    behind = chains_from(tree, look, place)
    if len(ahead) + len(behind) == many - 1:
        return Sure(len(ahead), ahead, behind)
    # A place that must be ahead of another one has fewer places that must be ahead of it.
    order = sorted(tree, key=lambda other: len(chains_to(tree, look, other)))
    beside = [other for other in order if other != place and other not in ahead and other not in behind]
    first = [other for other in order if other in ahead]
    last = [other for other in order if other in behind]
    return Open(row_by_order(first + [place] + beside + last), row_by_order(first + beside + [place] + last))


def is_sure(many, look, place, *, arms=2):
    """Return whether exactly one rank is open for a place."""
    return len(open_ranks(many, look, place, arms=arms)) == 1


def open_ranks(many, look, place, *, arms=2):
    """Return the ascending list of all ranks that are open for a place."""
    tree = tree_of_look(many, look, place, arms)
    return list(range(len(chains_to(tree, look, place)), many - len(chains_from(tree, look, place))))


def sure_places(many, look, *, arms=2):
    """Return the ascending tuple of all places for which exactly one rank is open."""
    tree = Tree(many, arms=arms)
    check_look(look, tree)
    return tuple([place for place in tree if is_sure(many, look, place, arms=arms)])


def fewest_looks(row, place, *, arms=2):
    """Return a Fewest for a full heap."""
    heap = looked_heap_of(row, place, arms)
    many = len(heap)
    size = 0
    good = sure_looks(heap, size, place, arms)
    while not good:
        size += 1
        good = sure_looks(heap, size, place, arms)
    shorter = looks_that_tell(heap, size - 1)
    return Fewest(good[0], {look: judge_rank(many, look, place, arms=arms) for look in shorter})


def check_look(look, tree):
    """Raise BadOrder if a value is not a look that fits."""
    if not is_look(look, tree):
        raise BadOrder("not a look that fits")


def tree_of_look(many, look, place, arms):
    """Return the tree of the arguments of judge_rank; raise an error if one of them is wrong."""
    tree = Tree(many, arms=arms)
    check_look(look, tree)
    check_place(place, many)
    return tree


def looked_heap_of(row, place, arms):
    """Return the heap of the arguments of fewest_looks, as a tuple; raise an error if one of them is wrong."""
    heap = heap_of(row, arms)
    if not is_full(heap, len(heap)):
        raise BadOrder("not a full heap")
    check_place(place, len(heap))
    check_few(heap, MOST_LOOKED)
    return heap


def is_look(thing, tree):
    """Return whether a value of any kind is a look that fits."""
    if not isinstance(thing, tuple) or not all([place in tree for place in thing]):
        return False
    # A way ends with its own place, so no place comes twice either.
    return all([later not in tree.way_to(place) for at, place in enumerate(thing) for later in thing[at + 1:]])


def does_agree(row, look):
    """Return whether the keys of a full heap ascend in the order of a look."""
    told = [row[place] for place in look]
    return told == sorted(told)


def is_chain(thing, tree, look, ends):
    """Return whether a value is a chain between two ends."""
    if not isinstance(thing, tuple) or len(thing) < 2 or not all([place in tree for place in thing]):
        return False
    if (thing[0], thing[-1]) != ends:
        return False
    return all([is_step(one, other, tree, look) for one, other in zip(thing, thing[1:])])


def is_step(one, other, tree, look):
    """Return whether a place is a child of another one or comes after it in a look."""
    return other in tree[one] or (one in look and other in look[look.index(one) + 1:])


def is_open(thing, many, look, place, arms):
    """Return whether a value is an Open of a look and a place."""
    return isinstance(thing, Open) and thing.shows(many, look, place, arms=arms)


def chains_to(tree, look, place):
    """Return a dict from each place that must have a lesser key than a place to a chain from it to the place."""
    chains = {}
    fresh = [(place,)]
    while fresh:
        chain = fresh.pop()
        # The chain may go on by the parent, or by the place just before it in the look.
        for before in tree.way_to(chain[0])[-2:-1] + look_before(look, chain[0])[-1:]:
            if before not in chains:
                chains[before] = (before,) + chain
                fresh.append(chains[before])
    return chains


def chains_from(tree, look, place):
    """Return a dict from each place that must have a greater key than a place to a chain from the place to it."""
    chains = {}
    for other in tree:
        leading = chains_to(tree, look, other)
        if place in leading:
            chains[other] = leading[place]
    return chains


def look_before(look, place):
    """Return the part of a look before a place, which may not be in it."""
    if place not in look:
        return ()
    return look[:look.index(place)]


def looks_that_tell(heap, size):
    """Return the list of all looks with so many places that tell of a full heap."""
    return parts_of([heap.index(key) for key in range(len(heap))], size)


def sure_looks(heap, size, place, arms):
    """Return the list of all looks with so many places that tell of a full heap and make the rank of a place sure."""
    return [look for look in looks_that_tell(heap, size) if is_sure(len(heap), look, place, arms=arms)]

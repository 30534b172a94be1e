"""Standing: the ranks at which places can stand in full heaps, and closed sets of places."""

from heaprows.checks import check_index, check_place, is_integer_from, is_set_of_places
from heaprows.errors import BadNumber, BadRank, BadSet
from heaprows.rows import is_full_heap
from heaprows.trees import Tree


class Stands:
    """A full heap with a rank as its key at a place."""

    def __init__(self, row):
        self.row = tuple(row)

    def __eq__(self, other):
        return isinstance(other, Stands) and self.row == other.row

    def shows(self, many, place, rank, *, arms=2):
        """Return whether the row is a full heap with the rank at the place."""
        tree_of_standing(many, place, rank, arms)
        return is_full_heap(self.row, many, arms) and self.row[place] == rank


class Barred:
    """Too many places above a place (ahead), or below it (behind), for a rank."""

    def __init__(self, word, places):
        self.word = word
        self.places = tuple(places)

    def __eq__(self, other):
        return isinstance(other, Barred) and self.word == other.word and self.places == other.places

    def shows(self, many, place, rank, *, arms=2):
        """Return whether the places are an ascending tuple of such places, and too many."""
        tree = tree_of_standing(many, place, rank, arms)
        if not is_set_of_places(self.places, many):
            return False
        if self.word == "ahead":
            return len(self.places) > rank and are_among(self.places, places_above(tree, place))
        if self.word == "behind":
            return len(self.places) > many - 1 - rank and are_among(self.places, places_below(tree, place))
        return False


def stand(many, place, rank, *, arms=2):
    """Return a Stands or a Barred."""
    tree = tree_of_standing(many, place, rank, arms)
    above = places_above(tree, place)
    below = places_below(tree, place)
    if len(above) > rank:
        return Barred("ahead", above)
    if len(below) > many - 1 - rank:
        return Barred("behind", below)
    beside = [other for other in tree if other != place and other not in above and other not in below]
    ahead = list(above) + beside[:rank - len(above)]
    # The parent of a place beside is above, or is an earlier place beside.
    return Stands(row_by_order(ahead + [place] + beside[rank - len(above):] + list(below)))


def can_stand(many, place, rank, *, arms=2):
    """Return whether a place can stand at a rank."""
    return isinstance(stand(many, place, rank, arms=arms), Stands)


def ranks_of(many, place, *, arms=2):
    """Return the ascending list of all ranks at which a place can stand."""
    tree = Tree(many, arms=arms)
    return list(range(tree.depth(place), many - len(places_below(tree, place))))


def closed_sets(many, count, *, arms=2):
    """Return the list of all closed sets with so many places, in order."""
    tree = Tree(many, arms=arms)
    check_count(count, many)
    return sorted([closed for closed in all_closed(tree) if len(closed) == count])


def many_closed(many, count, *, arms=2):
    """Return the number of closed sets with so many places."""
    return len(closed_sets(many, count, arms=arms))


def closed_at(many, count, index, *, arms=2):
    """Return the closed set with an index among those with so many places."""
    found = closed_sets(many, count, arms=arms)
    check_index(index, len(found))
    return found[index]


def is_closed(many, thing, *, arms=2):
    """Return whether a value of any kind is a closed set."""
    tree = Tree(many, arms=arms)
    if not is_set_of_places(thing, many):
        return False
    return all([place == 0 or tree.parent(place) in thing for place in thing])


def closed_index(many, closed, *, arms=2):
    """Return the index of a closed set among those with the same number of places."""
    check_closed(many, closed, arms)
    return closed_sets(many, len(closed), arms=arms).index(closed)


def heap_with(many, closed, *, arms=2):
    """Return a full heap, as a tuple, with its least keys at the places of a closed set."""
    check_closed(many, closed, arms)
    others = [place for place in Tree(many, arms=arms) if place not in closed]
    return row_by_order(list(closed) + others)


def tree_of_standing(many, place, rank, arms):
    """Return the tree of the arguments of stand; raise an error if one of them is wrong."""
    tree = Tree(many, arms=arms)
    check_place(place, many)
    if not is_integer_from(rank, 0, many - 1):
        raise BadRank("not a rank")
    return tree


def check_count(count, many):
    """Raise BadNumber if a value is not a number of some of so many places."""
    if not is_integer_from(count, 0, many):
        raise BadNumber("not an integer from 0 to the number of places")


def check_closed(many, closed, arms):
    """Raise BadArms or BadMany if the tree is wrong, and BadSet if a value is not a closed set of its places."""
    if not is_closed(many, closed, arms=arms):
        raise BadSet("not a closed set of places")


def places_above(tree, place):
    """Return the ascending tuple of the places above a place."""
    return tree.way_to(place)[:-1]


def places_below(tree, place):
    """Return the ascending tuple of the places below a place."""
    return tree.subtree(place)[1:]


def are_among(places, others):
    """Return whether all of some places are among others."""
    return all([place in others for place in places])


def all_closed(tree):
    """Return the list of all closed sets of places."""
    found = [()]
    for place in tree:
        found = found + [closed + (place,) for closed in found if place == 0 or tree.parent(place) in closed]
    return found


def row_by_order(places):
    """Return the row, a tuple, whose keys 0, 1, 2 and so on are at these places, one after the other."""
    row = [0] * len(places)
    for key, place in enumerate(places):
        row[place] = key
    return tuple(row)

"""Trees: places numbered from 0, each one with as many children as the arms reach."""

from heaprows.checks import check_arms, check_many, check_place, is_integer_from, row_of


class Tree:
    """A tree with zero to twelve places and one to four arms."""

    def __init__(self, many, *, arms=2):
        check_arms(arms)
        check_many(many)
        self.many = many
        self.arms = arms
        self._places = tuple(range(many))

    @classmethod
    def of(cls, row, *, arms=2):
        """Return the tree of a row."""
        check_arms(arms)
        return cls(len(row_of(row)), arms=arms)

    def __len__(self):
        return len(self._places)

    def __contains__(self, thing):
        return is_integer_from(thing, 0, self.many - 1)

    def __iter__(self):
        return iter(self._places)

    def __getitem__(self, place):
        check_place(place, self.many)
        first = place * self.arms + 1
        return self._places[first:first + self.arms]

    def __eq__(self, other):
        return isinstance(other, Tree) and self.many == other.many and self.arms == other.arms

    def parent(self, place):
        """Return the parent of a place, or None for the root."""
        check_place(place, self.many)
        if place == 0:
            return None
        return (place - 1) // self.arms

    def way_to(self, place):
        """Return the tuple of the places from the root to a place."""
        way = [place]
        above = self.parent(place)
        while above is not None:
            way.append(above)
            above = self.parent(above)
        return tuple(way[::-1])

    def depth(self, place):
        """Return the number of places on the way to a place before it."""
        return len(self.way_to(place)) - 1

    def size(self, place):
        """Return the number of places in the subtree of a place."""
        return len(self.subtree(place))

    def height(self, place):
        """Return how much deeper than a place its subtree goes."""
        return max([self.depth(below) for below in self.subtree(place)]) - self.depth(place)

    def subtree(self, place):
        """Return the ascending tuple of the places whose way contains a place."""
        check_place(place, self.many)
        return tuple([below for below in self._places if place in self.way_to(below)])

"""Sifts: a key of a row goes up or down until it stays."""

from heaprows.trees import Tree


class Sift:
    """The row after a sift, the way of the key, and the number of looks."""

    def __init__(self, row, way, looks):
        self.row = tuple(row)
        self.way = tuple(way)
        self.looks = looks

    def __eq__(self, other):
        return (isinstance(other, Sift) and self.row == other.row and self.way == other.way
                and self.looks == other.looks)


def sift_up(row, place, *, arms=2):
    """Return the Sift of the key at a place that goes up."""
    tree = Tree.of(row, arms=arms)
    above = tree.way_to(place)[:-1]
    keys = list(row)
    way = [place]
    looks = 0
    for parent in reversed(list(above)):
        here = way[-1]
        looks += 1
        if keys[here] >= keys[parent]:
            break
        keys[here], keys[parent] = keys[parent], keys[here]
        way.append(parent)
    return Sift(keys, way, looks)


def sift_down(row, place, *, arms=2):
    """Return the Sift of the key at a place that goes down."""
    tree = Tree.of(row, arms=arms)
    children = tree[place]
    keys = list(row)
    way = [place]
    looks = 0
    while children:
        here = way[-1]
        looks += len(children)
        child = least_child(keys, children)
        if keys[here] <= keys[child]:
            break
        keys[here], keys[child] = keys[child], keys[here]
        way.append(child)
        children = tree[child]
    return Sift(keys, way, looks)


def least_child(keys, children):
    """Return the first one of some children with the least key among them."""
    return min(children, key=lambda place: keys[place])


def row_before(row, way):
    """Return the row, a tuple, from which a sift with this way leads to a row."""
    keys = list(row)
    keys[way[0]] = row[way[-1]]
    for place, after in zip(way, way[1:]):
        keys[after] = row[place]
    return tuple(keys)

"""The fewest keys of a row that must be changed until it is a heap."""

from heaprows.checks import check_few
from heaprows.trees import Tree

MOST_LISTED = 10


class Mended:
    """A heap with as few changed keys as possible, the places of the kept ones, and as many falling chains."""

    def __init__(self, row, kept, chains):
        self.row = tuple(row)
        self.kept = tuple(kept)
        self.chains = [tuple(chain) for chain in chains]

    def __eq__(self, other):
        return (isinstance(other, Mended) and self.row == other.row and self.kept == other.kept
                and self.chains == other.chains)

    def shows(self, row, *, arms=2):
        """Return whether the heap keeps these keys of a row, and the chains are as many and divide its places."""
        tree = Tree.of(row, arms=arms)
        if not is_rising(self.row, tree) or len(self.chains) != len(self.kept):
            return False
        if self.kept != tuple([place for place in tree if self.row[place] == row[place]]):
            return False
        if sorted([place for chain in self.chains for place in chain]) != list(tree):
            return False
        return all([is_falling(chain, row, tree) for chain in self.chains])


def mend(row, *, arms=2):
    """Return a Mended."""
    tree = Tree.of(row, arms=arms)
    kept = max(sets_to_keep(row, tree), key=len)
    return Mended(mended_row(row, kept, tree), kept, falling_chains(row, tree))


def fewest_changed(row, *, arms=2):
    """Return the least number of keys that must be changed until a row is a heap."""
    tree = Tree.of(row, arms=arms)
    # As many keys can be kept as there are falling chains, if these are as few as possible.
    return len(tree) - len(falling_chains(row, tree))


def kept_sets(row, *, arms=2):
    """Return the ascending list of the largest sets of places whose keys can be kept."""
    tree = Tree.of(row, arms=arms)
    check_few(row, MOST_LISTED)
    found = sets_to_keep(row, tree)
    most = max([len(kept) for kept in found])
    return sorted([kept for kept in found if len(kept) == most])


def sets_to_keep(row, tree):
    """Return the list of all sets of places without a fallen pair, each an ascending tuple."""
    found = [()]
    for place in tree:
        greater = [above for above in tree.way_to(place) if row[above] > row[place]]
        found = found + [kept + (place,) for kept in found if all([above not in kept for above in greater])]
    return found


def mended_row(row, kept, tree):
    """Return a heap, as a list, with the keys of a row at the kept places."""
    keys = []
    for place in tree:
        if place in kept:
            keys.append(row[place])
        elif place == 0:
            keys.append(min(row))
        else:
            keys.append(keys[tree.parent(place)])
    return keys


def falling_chains(row, tree):
    """Return a list of as few falling chains as possible, with each place in exactly one of them."""
    chains = []
    for place in reversed(list(tree)):
        below = tree.subtree(place)
        lesser = [chain for chain in chains if chain[0] in below and row[chain[0]] < row[place]]
        if lesser:
            # The other chains begin with lesser keys, so that places above can lengthen them more easily.
            longer = max(lesser, key=lambda chain: row[chain[0]])
            chains.remove(longer)
            chains.append((place,) + longer)
        else:
            chains.append((place,))
    return chains


def is_rising(keys, tree):
    """Return whether some integers, one for each place, are nowhere less than the one at the parent."""
    return len(keys) == len(tree) and all([keys[place] <= keys[child] for place in tree for child in tree[place]])


def is_falling(chain, row, tree):
    """Return whether a tuple of places of a row is a falling chain."""
    return len(chain) > 0 and all([lower in tree.subtree(upper) and row[lower] < row[upper]
                                   for upper, lower in zip(chain, chain[1:])])

"""The number of heaps of some keys, of which many may be equal."""

from heaprows.checks import check_few
from heaprows.trees import Tree

MOST_KEYS = 10


def how_many_of(keys, *, arms=2):
    """Return the number of heaps of some keys."""
    tree = Tree.of(keys, arms=arms)
    check_few(keys, MOST_KEYS)
    sizes = closed_sizes(tree)
    # In a heap, the places of all keys up to a limit hold their parents too. So a heap is a chain of such closed
    # sets, one for each different key, and the heaps are counted as chains.
    chains = {0: 1}
    held = 0
    for key in sorted(set(keys)):
        held += keys.count(key)
        longer = [places for places in sizes if sizes[places] == held]
        chains = {places: chains_to(places, chains) for places in longer}
    return sum(chains.values())


def closed_sizes(tree):
    """Return a dict from all closed sets of places, each as the sum of 1 << place, to their numbers of places."""
    sizes = {0: 0}
    for place in tree:
        for places in list(sizes):
            if place == 0 or places & (1 << tree.parent(place)):
                sizes[places | (1 << place)] = sizes[places] + 1
    return sizes


def chains_to(places, chains):
    """Return the number of chains that end in a subset of some places."""
    return sum([chains[before] for before in chains if before & places == before])

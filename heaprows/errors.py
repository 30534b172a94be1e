"""All errors of the package. Their messages hold no numbers, as Python refuses to write out very great ones."""


class HeapError(ValueError):
    """The base class of all errors of the package."""


class BadArms(HeapError):
    """The arms are not an integer from 1 to 4."""


class BadMany(HeapError):
    """Not a number of places."""


class BadPlace(HeapError):
    """Not one of the places that are asked for."""


class BadKey(HeapError):
    """Not a key, or not one that is asked for."""


class BadRow(HeapError):
    """Not a row; `index` is that of the first item that is not a key, or None."""

    def __init__(self, index=None):
        super().__init__("not a row of at most twelve keys")
        self.index = index


class NotHeap(HeapError):
    """The row is not a heap; `place` is the first fault."""

    def __init__(self, place=None):
        super().__init__("not a heap: a key is less than the key of its parent")
        self.place = place


class SameKeys(HeapError):
    """Some keys are equal; `place` is the first one whose key is also at an earlier place."""

    def __init__(self, place=None):
        super().__init__("a key is also at an earlier place")
        self.place = place


class BadIndex(HeapError):
    """Not an index of what is asked for."""


class BadBounds(HeapError):
    """Not bounds; `place` is the index of the first item that is not a pair of ranks, or None."""

    def __init__(self, place=None):
        super().__init__("not bounds: a least and a greatest rank for each place")
        self.place = place


class BadStops(HeapError):
    """Not stops; `index` is that of the first item that is not as it must be, or None."""

    def __init__(self, index=None):
        super().__init__("not the stops of a row")
        self.index = index


class Empty(HeapError):
    """There are no keys."""


class Full(HeapError):
    """There are twelve keys, or twelve names."""


class TooLarge(HeapError):
    """There are more keys or places than can be answered for."""


class BadRank(HeapError):
    """Not a rank."""


class BadSet(HeapError):
    """Not a set of places that is asked for."""


class BadOrder(HeapError):
    """Not an order, a look or a way that is asked for."""


class BadCode(HeapError):
    """Not the code of an order."""


class BadNumber(HeapError):
    """Not a number that is asked for."""


class BadPool(HeapError):
    """Not a pool."""


class BadState(HeapError):
    """Not a state."""


class BadDeed(HeapError):
    """Not a history; `index` is that of the first deed that is not possible, or None."""

    def __init__(self, index=None):
        super().__init__("not a history of deeds that are possible")
        self.index = index


class BadGoal(HeapError):
    """Not a goal."""


class BadRoom(HeapError):
    """Not a room."""


class BadName(HeapError):
    """Not a name that is asked for."""


class NothingDone(HeapError):
    """There is no deed that can be undone."""


class BadText(HeapError):
    """Not a text that can be read; `row` is the index of the first line that is wrong, or None."""

    def __init__(self, row=None):
        super().__init__("not a text that can be read")
        self.row = row

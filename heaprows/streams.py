"""Streams: keepers, which hold the greatest keys seen so far, and orders by how many of their items come in."""

from heaprows.checks import Mark, check_arms, check_index, check_key, check_many, check_room
from heaprows.checks import is_full, is_integer_from, is_key, row_of
from heaprows.errors import BadCode, BadOrder
from heaprows.heaps import push, put_for
from heaprows.standing import check_count

MOST_ITEMS = 12


class Keeper:
    """A heap of the greatest keys seen so far, at most as many as its room."""

    def __init__(self, room, *, arms=2):
        check_arms(arms)
        check_room(room)
        self.room = room
        self.arms = arms
        self._heap = ()
        self._entered = 0
        self._mark = Mark()

    def __eq__(self, other):
        return isinstance(other, Keeper) and self._mark == other._mark

    def __len__(self):
        return len(self._heap)

    def __contains__(self, thing):
        return is_key(thing) and thing in self._heap

    @property
    def heap(self):
        """The heap as a tuple."""
        return self._heap

    @property
    def entered(self):
        """The number of keys that came in."""
        return self._entered

    def see(self, key):
        """Return a pair: whether a key comes in, and the key that goes out, or None."""
        check_key(key)
        if len(self._heap) < self.room:
            gone = None
            self._heap = push(self._heap, key, arms=self.arms).row
        elif key > self._heap[0]:
            gone, sift = put_for(self._heap, key, arms=self.arms)
            self._heap = sift.row
        else:
            return False, None
        self._entered += 1
        return True, gone

    def ascending(self):
        """Return the ascending list of the keys in the heap."""
        return sorted(self._heap)


def changes(room, row):
    """Return the number of keys of a row that come in if a keeper without keys sees them."""
    keeper = Keeper(room)
    for key in row_of(row):
        keeper.see(key)
    return keeper.entered


def order_code(order):
    """Return the code of an order."""
    if not isinstance(order, (list, tuple)) or len(order) > MOST_ITEMS or not is_full(order, len(order)):
        raise BadOrder("not a list or tuple of the items of an order")
    return tuple([len([before for before in order[:at] if before > item]) for at, item in enumerate(order)])


def order_by(numbers):
    """Return the order with a code, as a tuple."""
    if not is_code(numbers):
        raise BadCode("not the code of an order")
    left = list(range(len(numbers)))
    order = []
    # The last number tells which item is the last one; then the others are left.
    for number in reversed(list(numbers)):
        order.append(left.pop(len(left) - 1 - number))
    return tuple(order[::-1])


def many_orders(many, room, number):
    """Return the number of orders of so many items of which exactly a number come in."""
    return ends_for(many, room, number)[0][number]


def order_at(many, room, number, index):
    """Return the order with an index among those of so many items of which exactly a number come in."""
    ends = ends_for(many, room, number)
    check_index(index, ends[0][number])
    code = []
    left = index
    coming = number
    for later in ends[1:]:
        digit = 0
        while left >= ends_with(later, digit, room, coming):
            left -= ends_with(later, digit, room, coming)
            digit += 1
        code.append(digit)
        coming -= does_come(digit, room)
    return order_by(code)


def order_index(room, order):
    """Return the index of an order among those with as many items of which as many come in."""
    check_room(room)
    code = order_code(order)
    number = sum([does_come(digit, room) for digit in code])
    ends = ends_for(len(code), room, number)
    index = 0
    coming = number
    for later, digit in zip(ends[1:], code):
        index += sum([ends_with(later, lesser, room, coming) for lesser in range(digit)])
        coming -= does_come(digit, room)
    return index


def is_code(thing):
    """Return whether a value of any kind is the code of an order."""
    if not isinstance(thing, (list, tuple)) or len(thing) > MOST_ITEMS:
        return False
    return all([is_integer_from(number, 0, at) for at, number in enumerate(thing)])


def does_come(digit, room):
    """Return 1 if an item with so many greater items before it comes in, and otherwise 0."""
    return int(digit < room)


def ends_for(many, room, number):
    """Return, for each index from 0 to many, a dict from numbers to how many ends of codes have so many coming in."""
    check_many(many)
    check_room(room)
    check_count(number, many)
    ends = [{coming: int(coming == 0) for coming in range(many + 1)}]
    for at in reversed(range(many)):
        ends.append({coming: sum([ends_with(ends[-1], digit, room, coming) for digit in range(at + 1)])
                     for coming in range(many + 1)})
    return ends[::-1]


def ends_with(later, digit, room, coming):
    """Return how many ends of codes begin with a digit and have so many coming in, for the dict of those after it."""
    return later.get(coming - does_come(digit, room), 0)

"""Queues: heaps with a name at each place, with deeds that can be undone, branches and trials."""

from heaprows.checks import MOST_PLACES, Mark, check_arms, check_key
from heaprows.errors import BadName, Empty, Full, NothingDone
from heaprows.sifts import sift_down, sift_up

LETTERS = "abcdefghijklmnopqrstuvwxyz"
LONGEST_NAME = 8


class Trial:
    """A with-block at whose end everything in a queue is as it was when the block began."""

    def __init__(self, queue):
        self._queue = queue
        self._heap = ()
        self._names = ()
        self._done = []
        self._begun = 0

    def __enter__(self):
        queue = self._queue
        self._heap = queue._heap
        self._names = queue._names
        self._done = queue._done
        self._begun = queue._begun
        # The list of before is kept for the end, so the queue goes on with another one.
        queue._done = list(queue._done)
        queue._begun = len(queue._done)
        return queue

    def __exit__(self, kind, value, trace):
        self._queue._heap = self._heap
        self._queue._names = self._names
        self._queue._done = self._done
        self._queue._begun = self._begun


class Queue:
    """A heap of keys with names, the least key first."""

    def __init__(self, *, arms=2):
        check_arms(arms)
        self.arms = arms
        self._heap = ()
        self._names = ()
        # Each deed stands together with the heap and the names before it.
        self._done = []
        self._begun = 0
        self._mark = Mark()

    def __eq__(self, other):
        return isinstance(other, Queue) and self._mark == other._mark

    def __len__(self):
        return len(self._names)

    def __contains__(self, thing):
        return isinstance(thing, str) and thing in self._names

    @property
    def heap(self):
        """The tuple of the keys in the order of their places."""
        return self._heap

    @property
    def names(self):
        """The tuple of the names in the order of their places."""
        return self._names

    @property
    def journal(self):
        """The list of all deeds."""
        return [done[0] for done in self._done]

    def put(self, name, key):
        """Push a key with a name; return the place at which the name is afterwards."""
        if not is_name(name) or name in self:
            raise BadName("not a name, or already in the queue")
        check_key(key)
        if len(self) == MOST_PLACES:
            raise Full("there are twelve names")
        self._note(("put", name, key))
        return self._settle(self._heap + (key,), self._names + (name,), len(self), False)

    def change(self, name, key):
        """Give a name another key; return the place at which the name is afterwards."""
        place = self.where(name)
        check_key(key)
        self._note(("change", name, key))
        before = self._heap[place]
        heap = self._heap[:place] + (key,) + self._heap[place + 1:]
        return self._settle(heap, self._names, place, key > before)

    def take(self):
        """Take out the least key; return its name."""
        if not self._names:
            raise Empty("there are no keys")
        self._note(("take",))
        name = self._names[0]
        # If the last key equals the least one, it stays at the root, as it does when it goes down.
        self._remove(0)
        return name

    def drop(self, name):
        """Remove a name; return its key."""
        place = self.where(name)
        self._note(("drop", name))
        key = self._heap[place]
        self._remove(place)
        return key

    def undo(self):
        """Revert the last deed; return it."""
        if len(self._done) == self._begun:
            raise NothingDone("there is no deed that can be undone")
        deed, self._heap, self._names = self._done.pop()
        return deed

    def branch(self):
        """Return an independent queue in which everything is the same, and which is in no trial."""
        other = self._without_journal()
        other._done = list(self._done)
        return other

    def trial(self):
        """Return a context manager that yields the queue; at its end everything is as it was."""
        return Trial(self)

    def attempt(self, work):
        """Call a function with the queue inside a trial; return its result."""
        with self.trial() as queue:
            result = work(queue)
        return result

    def where(self, name):
        """Return the place of a name."""
        if name not in self:
            raise BadName("not in the queue")
        return self._names.index(name)

    def key_of(self, name):
        """Return the key of a name."""
        return self._heap[self.where(name)]

    def in_order(self):
        """Return the list of the names in the order in which takings would return them."""
        other = self._without_journal()
        names = []
        while len(other) > 0:
            names.append(other.take())
        return names

    def _note(self, deed):
        """Add a deed to the journal, before it is done."""
        self._done.append((deed, self._heap, self._names))

    def _settle(self, heap, names, place, is_greater):
        """Sift the key at a place together with its name; return the place where it stays."""
        if is_greater:
            sift = sift_down(heap, place, arms=self.arms)
        else:
            sift = sift_up(heap, place, arms=self.arms)
        moved = list(names)
        for here, there in zip(sift.way, sift.way[1:]):
            moved[here], moved[there] = moved[there], moved[here]
        self._heap = sift.row
        self._names = tuple(moved)
        return sift.way[-1]

    def _remove(self, place):
        """Remove the key at a place and its name; the last ones take their place."""
        key = self._heap[-1]
        name = self._names[-1]
        before = self._heap[place]
        self._heap = self._heap[:-1]
        self._names = self._names[:-1]
        if place < len(self):
            heap = self._heap[:place] + (key,) + self._heap[place + 1:]
            names = self._names[:place] + (name,) + self._names[place + 1:]
            self._settle(heap, names, place, key > before)

    def _without_journal(self):
        """Return another queue with the same heap and names."""
        other = Queue(arms=self.arms)
        other._heap = self._heap
        other._names = self._names
        return other


def is_name(thing):
    """Return whether a value of any kind is a name."""
    if not isinstance(thing, str) or not 1 <= len(thing) <= LONGEST_NAME:
        return False
    return all([letter in LETTERS for letter in thing])

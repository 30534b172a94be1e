"""Texts: heaps and journals of queues as text, and read from text."""

from heaprows.checks import GREATEST_KEY, MOST_PLACES, check_arms
from heaprows.errors import BadKey, BadText, HeapError
from heaprows.queues import Queue
from heaprows.rows import heap_of, is_heap
from heaprows.trees import Tree

DIGITS = "0123456789"


def write_heap(row, *, arms=2):
    """Return the text of a heap."""
    heap = heap_of(row, arms)
    tree = Tree.of(heap, arms=arms)
    depths = [tree.depth(place) for place in tree]
    return text_of([[heap[place] for place in tree if tree.depth(place) == depth] for depth in sorted(set(depths))])


def read_heap(text, *, arms=2):
    """Return the heap, as a tuple, that a text describes."""
    check_arms(arms)
    heap = ()
    # The places at lesser depths must all be there, and there are so many at this depth.
    needed = 0
    width = 1
    for index, line in enumerate(lines_of(text)):
        keys = keys_in(line)
        if not keys or len(keys) > width or len(heap) < needed or not is_tall_heap(heap + keys, arms):
            raise BadText(index)
        heap = heap + keys
        needed += width
        width *= arms
    check_end(text)
    return heap


def write_journal(queue):
    """Return the text of the journal of a queue."""
    return text_of(queue.journal)


def read_journal(text, *, arms=2):
    """Return a queue, at first without keys, on which the deeds of a text were done."""
    queue = Queue(arms=arms)
    for index, line in enumerate(lines_of(text)):
        try:
            do_line(queue, line)
        except HeapError:
            raise BadText(index) from None
    check_end(text)
    return queue


def text_of(lines):
    """Return the text of lines, each given as the list or tuple of its words and numbers."""
    return "".join([" ".join([str(word) for word in line]) + "\n" for line in lines])


def lines_of(text):
    """Return the list of the lines of a text, without line feeds; raise BadText if it is not a text."""
    if not isinstance(text, str):
        raise BadText(None)
    return text.split("\n")[:-1]


def check_end(text):
    """Raise BadText if there are characters behind the last line feed of a text."""
    lines = text.split("\n")
    if lines[-1] != "":
        raise BadText(len(lines) - 1)


def keys_in(line):
    """Return the tuple of the keys in a line, or one without keys if it is not written as it must be."""
    words = line.split(" ")
    if not all([is_number(word) for word in words]):
        return ()
    return tuple([int(word) for word in words])


def is_number(word):
    """Return whether a word is a key, written as it must be."""
    digits = word.removeprefix("-")
    # Python refuses to read very long numbers; no key is longer than the greatest one.
    if not 1 <= len(digits) <= len(str(GREATEST_KEY)) or not all([digit in DIGITS for digit in digits]):
        return False
    return word == str(int(word)) and int(digits) <= GREATEST_KEY


def is_tall_heap(keys, arms):
    """Return whether keys are at most twelve, and a heap."""
    return len(keys) <= MOST_PLACES and is_heap(keys, arms=arms)


def do_line(queue, line):
    """Do the deed of a line with a queue; raise an error of the package if it is not a deed, or not possible."""
    words = line.split(" ")
    if words == ["take"]:
        queue.take()
    elif words[0] == "drop" and len(words) == 2:
        queue.drop(words[1])
    elif words[0] == "put" and len(words) == 3:
        queue.put(words[1], key_in(words[2]))
    elif words[0] == "change" and len(words) == 3:
        queue.change(words[1], key_in(words[2]))
    else:
        raise BadText(None)


def key_in(word):
    """Return the key that a word is; raise BadKey if it is not one."""
    if not is_number(word):
        raise BadKey("not a number that is written as it must be")
    return int(word)

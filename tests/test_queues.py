"""Promise 19: queues, names, journals, undoing, branches, trials."""

import itertools
import random
import unittest

from heaprows.errors import BadArms, BadKey, BadName, Empty, Full, HeapError, NothingDone
from heaprows.queues import Queue
from helpers import (
    ALL_ARMS, GREATEST, bad_arms, bad_keys, check_example, check_raises, check_time, check_values, children,
    first_least, heap_like, not_integers, parent)

EXAMPLE = """
>>> from heaprows.queues import Queue
>>> queue = Queue()
>>> [[queue.put(name, key) for name, key in (('a', 5), ('b', 3), ('c', 4))], queue.heap, queue.names, queue.change('a', 1), queue.in_order(), queue.drop('b'), queue.take(), queue.undo(), queue.where('c'), queue.journal[-1]]
[[0, 0, 2], (3, 5, 4), ('b', 'a', 'c'), 0, ['a', 'b', 'c'], 3, 'a', ('take',), 1, ('drop', 'b')]
"""

NAMES = ["a", "b", "c", "zz", "abcdefgh", "q", "take", "put", "hh", "xyz", "m", "n", "ooooooo", "w"]


class Boom(Exception):
    """An error of a block or a function that the package knows nothing of."""


class Model:
    """What [19] says, step by step, on a list of pairs of a key and a name."""

    def __init__(self, arms):
        self.arms = arms
        self.pairs = []
        self.journal = []
        self.befores = []

    def state(self):
        return tuple(key for key, _ in self.pairs), tuple(name for _, name in self.pairs), list(self.journal)

    def copy(self):
        other = Model(self.arms)
        other.pairs, other.journal, other.befores = list(self.pairs), list(self.journal), list(self.befores)
        return other

    def note(self, deed):
        self.journal.append(deed)
        self.befores.append(list(self.pairs))

    def swap(self, one, other):
        self.pairs[one], self.pairs[other] = self.pairs[other], self.pairs[one]

    def up(self, at):
        while at and self.pairs[at][0] < self.pairs[parent(at, self.arms)][0]:
            self.swap(at, parent(at, self.arms))
            at = parent(at, self.arms)
        return at

    def down(self, at):
        while below := children(at, len(self.pairs), self.arms):
            child = first_least([key for key, _ in self.pairs], below)
            if not self.pairs[at][0] > self.pairs[child][0]:
                break
            self.swap(at, child)
            at = child
        return at

    def where(self, name):
        return [one for _, one in self.pairs].index(name)

    def put(self, name, key):
        self.note(("put", name, key))
        self.pairs.append((key, name))
        return self.up(len(self.pairs) - 1)

    def change(self, name, key):
        self.note(("change", name, key))
        at = self.where(name)
        before = self.pairs[at][0]
        self.pairs[at] = (key, name)
        return self.down(at) if key > before else self.up(at)

    def take(self):
        self.note(("take",))
        name = self.pairs[0][1]
        last = self.pairs.pop()
        if self.pairs:
            self.pairs[0] = last
            self.down(0)
        return name

    def drop(self, name):
        self.note(("drop", name))
        at = self.where(name)
        key = self.pairs[at][0]
        last = self.pairs.pop()
        if at < len(self.pairs):
            self.pairs[at] = last
            if last[0] > key:
                self.down(at)
            else:
                self.up(at)
        return key

    def undo(self):
        self.pairs = list(self.befores.pop())
        return self.journal.pop()

    def in_order(self):
        other = self.copy()
        return [other.take() for _ in self.pairs]

    def do(self, deed):
        return getattr(self, deed[0])(*deed[1:])


def do(queue, deed):
    return getattr(queue, deed[0])(*deed[1:])


def drawn_key(draw, kind):
    return {0: draw.randint(-2, 2), 1: draw.choice((-GREATEST, GREATEST, 0)), 2: draw.randint(-GREATEST, GREATEST)}[kind]


def drawn_deed(draw, names, kind):
    """A deed that is possible with these names in the queue."""
    words = (["put"] * 4 if len(names) < 12 else []) + (["change"] * 3 + ["drop", "take"] if names else [])
    word = draw.choice(words)
    if word == "put":
        return word, draw.choice([name for name in NAMES if name not in names]), drawn_key(draw, kind)
    if word == "change":
        return word, draw.choice(names), drawn_key(draw, kind)
    return (word, draw.choice(names)) if word == "drop" else (word,)


class QueuesTest(unittest.TestCase):
    def check_state(self, queue, model):
        check_values(self, (queue.heap, queue.names, queue.journal), model.state())

    def check_all(self, queue, model):
        self.check_state(queue, model)
        self.assertTrue(heap_like(queue.heap, queue.arms))
        check_values(self, (len(queue), queue.arms), (len(model.pairs), model.arms))
        for place, (key, name) in enumerate(model.pairs):
            check_values(self, (queue.where(name), queue.key_of(name)), (place, key))
        for name in NAMES:
            self.assertIs(name in queue, name in queue.names)
        check_values(self, queue.in_order(), model.in_order())
        self.check_state(queue, model)

    def test_example(self):
        check_example(self, EXAMPLE)

    def test_drawn_deeds(self):
        draw = random.Random(1)
        most = 0
        for arms, kind, _ in itertools.product(ALL_ARMS, range(3), range(5)):
            queue, model = Queue(arms=arms), Model(arms)
            self.check_all(queue, model)
            for _ in range(60):
                deed = drawn_deed(draw, queue.names, kind)
                check_values(self, do(queue, deed), model.do(deed))
                self.check_all(queue, model)
                most = max(most, len(queue))
                if draw.random() < 0.1:
                    for _ in range(draw.randint(1, min(4, len(model.journal)))):
                        check_values(self, queue.undo(), model.undo())
                        self.check_all(queue, model)
            while model.journal:
                check_values(self, queue.undo(), model.undo())
                self.check_state(queue, model)
            check_raises(self, NothingDone, queue.undo)
            check_values(self, (queue.heap, queue.names, queue.journal), ((), (), []))
        self.assertEqual(most, 12)

    def test_twelve_names(self):
        draw = random.Random(2)
        for arms, kind in itertools.product(ALL_ARMS, range(3)):
            queue, model = Queue(arms=arms), Model(arms)
            for name in NAMES[:12]:
                deed = ("put", name, drawn_key(draw, kind))
                check_values(self, do(queue, deed), model.do(deed))
            check_raises(self, Full, queue.put, NAMES[12], 0)
            check_raises(self, BadKey, queue.put, NAMES[12], None)
            check_raises(self, BadName, queue.put, NAMES[0], 0)
            self.check_all(queue, model)
            for _ in range(30):
                deed = ("change", draw.choice(NAMES[:12]), drawn_key(draw, kind))
                check_values(self, do(queue, deed), model.do(deed))
                self.check_all(queue, model)
            for name in draw.sample(NAMES[:12], 6):
                check_values(self, queue.drop(name), model.drop(name))
                self.check_all(queue, model)
            for _ in range(6):
                check_values(self, queue.take(), model.take())
                self.check_all(queue, model)
            check_raises(self, Empty, queue.take)
            for _ in range(12 + 30 + 12):
                check_values(self, queue.undo(), model.undo())
                self.check_state(queue, model)

    def test_a_drop_can_let_the_last_key_go_up(self):
        queue = Queue()
        for name, key in zip("abcdefg", (0, 5, 1, 6, 7, 2, 3)):
            queue.put(name, key)
        check_values(self, [queue.heap, queue.drop("d"), queue.heap, queue.names],
                     [(0, 5, 1, 6, 7, 2, 3), 6, (0, 3, 1, 5, 7, 2), ("a", "g", "c", "b", "e", "f")])

    def test_equal_keys(self):
        queue = Queue()
        for name in "abc":
            queue.put(name, 4)
        check_values(self, [queue.in_order(), queue.change("b", 4), queue.change("c", 4), queue.names, queue.take(),
                            queue.names, queue.take(), queue.names],
                     [["a", "c", "b"], 1, 2, ("a", "b", "c"), "a", ("c", "b"), "c", ("b",)])
        self.assertEqual(len(queue.journal), 7)

    def test_in_order_changes_nothing(self):
        queue = Queue(arms=3)
        for name, key in zip("abcdef", (5, 1, 4, 1, 9, 2)):
            queue.put(name, key)
        kept = queue.heap, queue.names, queue.journal
        queue.in_order().clear()
        check_values(self, (queue.heap, queue.names, queue.journal), kept)
        check_values(self, queue.in_order(), [queue.take() for _ in range(6)])

    def test_journal_is_new(self):
        queue = Queue()
        queue.put("a", 1)
        queue.journal.clear()
        first = queue.journal
        queue.put("b", 0)
        check_values(self, [first, queue.journal], [[("put", "a", 1)], [("put", "a", 1), ("put", "b", 0)]])
        for name in ("heap", "names", "journal"):
            with self.assertRaises(AttributeError):
                setattr(queue, name, ())

    def test_long_journals(self):
        queue = Queue()

        def work():
            for number in range(5000):
                queue.put("a", number)
                queue.drop("a")
                if number % 100 == 0:
                    queue.branch().undo()
                    queue.in_order()
            for _ in range(10000):
                queue.undo()

        check_time(self, work)
        check_values(self, queue.journal, [])

    def test_equality(self):
        queue = Queue()
        other = Queue()
        self.assertIs(queue == queue, True)
        self.assertIs(queue != queue, False)
        branch = queue.branch()
        for thing in not_integers() + [other, branch, Queue(), 1, (), queue.heap]:
            self.assertIs(queue == thing, False)
            self.assertIs(queue != thing, True)
        self.assertIs(branch == branch, True)
        self.assertIs(branch == queue.branch(), False)
        with queue.trial() as held:
            self.assertIs(held, queue)
            self.assertIs(held == queue, True)


class RefusedTest(unittest.TestCase):
    def bad_names(self):
        return not_integers() + ["", "abcdefghi", "A", "aB", "a1", "1", "a b", " a", "a ", "a\n", "-", "a-b", "_",
                                 "\u00e4", "\u0430", "a\u0301", "\uff41", "aa\x00", b"a", ["a"], ("a",), {"a": 1},
                                 {"a"}, 0, 10 ** 5000, "a" * 9, "a" * 1000]

    def check_refused(self, queue, error, work, *args):
        kept = queue.heap, queue.names, queue.journal, len(queue)
        check_raises(self, error, work, *args)
        check_values(self, (queue.heap, queue.names, queue.journal, len(queue)), kept)

    def queues(self):
        """Queues without names, with some and with twelve, in trials and out of them."""
        for many in (0, 1, 4, 12):
            queue = Queue(arms=3)
            for number in range(many):
                queue.put(NAMES[number], 7 - number % 5)
            yield queue
            with queue.trial():
                yield queue

    def test_names(self):
        for queue in self.queues():
            for name in self.bad_names():
                for key in (5, None):
                    self.check_refused(queue, BadName, queue.put, name, key)
                    self.check_refused(queue, BadName, queue.change, name, key)
                for work in (queue.drop, queue.where, queue.key_of):
                    self.check_refused(queue, BadName, work, name)
                self.assertIs(name in queue, False)
            for name in NAMES[len(queue):] + ["unknown"]:
                for work in (queue.drop, queue.where, queue.key_of):
                    self.check_refused(queue, BadName, work, name)
                for key in (5, None, GREATEST + 1):
                    self.check_refused(queue, BadName, queue.change, name, key)
                self.assertIs(name in queue, False)
            for name in queue.names:
                for key in (5, True, GREATEST + 1):
                    self.check_refused(queue, BadName, queue.put, name, key)
                self.assertIs(name in queue, True)

    def test_keys(self):
        for queue in self.queues():
            for key in bad_keys() + [10 ** 5000, -10 ** 5000]:
                self.check_refused(queue, BadKey, queue.put, "free", key)
                if queue.names:
                    self.check_refused(queue, BadKey, queue.change, "a", key)
            if len(queue) == 12:
                self.check_refused(queue, Full, queue.put, "free", 5)
            if len(queue) == 0:
                self.check_refused(queue, Empty, queue.take)

    def test_names_that_are_good(self):
        queue = Queue()
        for name in ("a", "z", "abcdefgh", "stuvwxyz", "ijklmnop", "qr"):
            queue.put(name, GREATEST)
            queue.change(name, -GREATEST)
        self.assertEqual(sorted(queue.names), ["a", "abcdefgh", "ijklmnop", "qr", "stuvwxyz", "z"])

    def test_arms(self):
        for arms in bad_arms():
            check_raises(self, BadArms, Queue, arms=arms)
        for arms in ALL_ARMS:
            check_values(self, Queue(arms=arms).arms, arms)
        check_values(self, Queue().arms, 2)
        self.assertRaises(TypeError, Queue, 2)

    def test_by_keyword(self):
        queue = Queue()
        check_values(self, [queue.put(key=3, name="a"), queue.change(key=4, name="a"), queue.where(name="a"),
                            queue.key_of(name="a"), queue.drop(name="a"), queue.attempt(work=len)],
                     [0, 0, 0, 4, 4, 0])


class BranchTest(unittest.TestCase):
    def test_branches_of_branches(self):
        draw = random.Random(3)
        for arms in ALL_ARMS:
            for _ in range(6):
                pairs = [(Queue(arms=arms), Model(arms))]
                for _ in range(120):
                    queue, model = draw.choice(pairs)
                    if len(pairs) < 6 and draw.random() < 0.1:
                        pairs.append((queue.branch(), model.copy()))
                    elif model.journal and draw.random() < 0.2:
                        check_values(self, queue.undo(), model.undo())
                    else:
                        deed = drawn_deed(draw, queue.names, 0)
                        check_values(self, do(queue, deed), model.do(deed))
                    for queue, model in pairs:
                        check_values(self, (queue.heap, queue.names, queue.journal), model.state())
                        check_values(self, queue.arms, arms)
                for queue, model in pairs:
                    while model.journal:
                        check_values(self, queue.undo(), model.undo())
                    check_raises(self, NothingDone, queue.undo)

    def test_a_branch_made_in_a_trial_is_in_no_trial(self):
        queue = Queue()
        queue.put("a", 1)
        with queue.trial():
            queue.put("b", 0)
            branch = queue.branch()
            check_values(self, [branch.undo(), branch.undo(), branch.journal], [("put", "b", 0), ("put", "a", 1), []])
            check_raises(self, NothingDone, branch.undo)
            branch.put("c", 5)
            check_values(self, queue.journal, [("put", "a", 1), ("put", "b", 0)])
            later = queue.branch()
        check_values(self, [branch.heap, branch.journal, queue.heap, later.names],
                     [(5,), [("put", "c", 5)], (1,), ("b", "a")])
        check_values(self, [later.undo(), later.undo(), queue.undo()],
                     [("put", "b", 0), ("put", "a", 1), ("put", "a", 1)])

    def test_a_trial_of_a_branch(self):
        queue = Queue()
        queue.put("a", 1)
        branch = queue.branch()
        with branch.trial() as held:
            self.assertIs(held, branch)
            check_raises(self, NothingDone, branch.undo)
            branch.take()
            check_values(self, queue.undo(), ("put", "a", 1))
        check_values(self, [branch.names, queue.names, branch.undo()], [("a",), (), ("put", "a", 1)])


class TrialTest(unittest.TestCase):
    def work_in(self, draw, queue, model, depth, floor=None):
        """Drawn deeds, undoings, and trials within a trial; errors leave some of them."""
        floor = len(model.journal) if floor is None else floor
        for _ in range(draw.randint(0, 12)):
            if depth and draw.random() < 0.2:
                self.one_trial(draw, queue, model, depth - 1)
            elif draw.random() < 0.3:
                if len(model.journal) > floor:
                    check_values(self, queue.undo(), model.undo())
                else:
                    check_raises(self, NothingDone, queue.undo)
            else:
                deed = drawn_deed(draw, queue.names, 0)
                check_values(self, do(queue, deed), model.do(deed))
            check_values(self, (queue.heap, queue.names, queue.journal), model.state())

    def one_trial(self, draw, queue, model, depth):
        kept = model.state()
        way = draw.randrange(5)
        inner = model.copy()
        if way == 0:
            with queue.trial() as held:
                self.assertIs(held, queue)
                self.work_in(draw, queue, inner, depth)
        elif way == 1:
            error = Boom()
            with self.assertRaises(Boom) as caught:
                with queue.trial():
                    self.work_in(draw, queue, inner, depth)
                    raise error
            self.assertIs(caught.exception, error)
        elif way == 2:
            def work(held):
                self.assertIs(held, queue)
                self.work_in(draw, held, inner, depth)
                return inner
            self.assertIs(queue.attempt(work), inner)
        elif way == 3:
            def wrong(held):
                self.work_in(draw, held, inner, depth)
                held.put("WRONG", 1)
            check_raises(self, BadName, queue.attempt, wrong)
        else:
            for _ in range(2):
                with queue.trial():
                    self.work_in(draw, queue, inner, depth)
                    break
        check_values(self, (queue.heap, queue.names, queue.journal), kept)
        self.assertEqual(model.state(), kept)

    def test_drawn_trials(self):
        draw = random.Random(4)
        for arms in ALL_ARMS:
            for _ in range(25):
                queue, model = Queue(arms=arms), Model(arms)
                self.work_in(draw, queue, model, 3, 0)
                for _ in range(3):
                    self.one_trial(draw, queue, model, 3)
                    self.work_in(draw, queue, model, 2, 0)
                while model.journal:
                    check_values(self, queue.undo(), model.undo())
                check_raises(self, NothingDone, queue.undo)

    def test_nothing_of_before_can_be_undone(self):
        queue = Queue()
        queue.put("a", 1)
        with queue.trial():
            check_raises(self, NothingDone, queue.undo)
            queue.put("b", 2)
            with queue.trial():
                check_raises(self, NothingDone, queue.undo)
                queue.drop("a")
                check_values(self, queue.undo(), ("drop", "a"))
                check_raises(self, NothingDone, queue.undo)
            check_values(self, queue.undo(), ("put", "b", 2))
            check_raises(self, NothingDone, queue.undo)
        check_values(self, [queue.journal, queue.undo(), queue.journal], [[("put", "a", 1)], ("put", "a", 1), []])

    def test_a_trial_begins_with_its_block(self):
        queue = Queue()
        trial = queue.trial()
        queue.put("a", 1)
        with trial:
            queue.put("b", 0)
        check_values(self, [queue.names, queue.journal], [("a",), [("put", "a", 1)]])

    def test_two_queues_in_trials(self):
        one, other = Queue(), Queue()
        with one.trial(), other.trial() as held:
            self.assertIs(held, other)
            one.put("a", 1)
            other.put("b", 2)
            check_values(self, [one.undo(), other.names], [("put", "a", 1), ("b",)])
            one.put("c", 1)
        check_values(self, [one.journal, other.journal, one.heap, other.heap], [[], [], (), ()])

    def test_attempt(self):
        queue = Queue()
        queue.put("a", 1)
        found = queue.attempt(lambda held: [held.put("b", 0), held.names, held.take(), held.journal])
        check_values(self, found, [0, ("b", "a"), "b", [("put", "a", 1), ("put", "b", 0), ("take",)]])
        check_values(self, [queue.journal, queue.attempt(lambda held: None)], [[("put", "a", 1)], None])
        for error in (Boom, KeyError, HeapError, StopIteration, KeyboardInterrupt):
            with self.assertRaises(error):
                def wrong(held, error=error):
                    held.take()
                    raise error
                queue.attempt(wrong)
            check_values(self, [queue.journal, queue.heap], [[("put", "a", 1)], (1,)])

    def test_each_way_out_of_a_block(self):
        queue = Queue()
        queue.put("a", 1)

        def leave():
            with queue.trial():
                queue.take()
                return queue.names

        check_values(self, [leave(), queue.names], [(), ("a",)])
        for error in (Boom, ValueError, KeyboardInterrupt, SystemExit):
            with self.assertRaises(error):
                with queue.trial():
                    queue.change("a", 9)
                    raise error
            check_values(self, [queue.heap, queue.journal], [(1,), [("put", "a", 1)]])


if __name__ == "__main__":
    unittest.main()

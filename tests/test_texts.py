"""Promise 20: texts of heaps and of journals."""

import random
import re
import unittest

from heaprows.errors import BadArms, BadText
from heaprows.queues import Queue
from heaprows.texts import read_heap, read_journal, write_heap, write_journal
from helpers import (
    ALL_ARMS, GREATEST, bad_arms, check_arms_errors, check_error_order, check_example, check_heap_errors, check_raises,
    check_time, check_values, heap_like, not_integers, sample_heaps, up)
from test_queues import NAMES, Model, do, drawn_deed

EXAMPLE = """
>>> from heaprows.texts import read_heap, read_journal, write_heap, write_journal
>>> queue = read_journal('put b 7\\nput a 2\\ndrop b\\n')
>>> [write_heap((1, 5, 3, 9)), read_heap('1\\n5 3\\n9\\n'), queue.names, write_journal(queue)]
['1\\n5 3\\n9\\n', (1, 5, 3, 9), ('a',), 'put b 7\\nput a 2\\ndrop b\\n']
"""

NUMBER = "(?:0|-?[1-9][0-9]{0,9})"
HEAP_LINE = re.compile(f"{NUMBER}(?: {NUMBER})*")
DEED_LINE = re.compile(f"take|drop [a-z]{{1,8}}|(?:put|change) [a-z]{{1,8}} {NUMBER}")
SIGNS = list("0123456789-+ \nabz_.,AZ\t\r\x00\x0b\x0c\x1c\x85\xa0") + ["\u0661", "\u0967", "\u2028", "\uff11", "\u00b2",
                                                                      "\u00e4", "\u0430", "\u2212", "\r\n", "--", "  "]


def written(heap, arms):
    """The text of a heap, place by place."""
    lines = {}
    for place, key in enumerate(heap):
        lines.setdefault(len(up(place, arms)), []).append(f"{key}")
    return "".join(" ".join(lines[depth]) + "\n" for depth in sorted(lines))


def read(text, arms):
    """The heap of a text, or the index of its first wrong line."""
    lines = text.split("\n")
    heap, depth = [], 0
    for index, line in enumerate(lines[:-1]):
        if not HEAP_LINE.fullmatch(line):
            return index
        longer = heap + [int(word) for word in line.split(" ")]
        places = [place for place in range(13) if len(up(place, arms)) == depth + 1]
        if places[:1] != [len(heap)] or len(longer) > places[-1] + 1 or len(longer) > 12:
            return index
        if max(map(abs, longer)) > GREATEST or not heap_like(longer, arms):
            return index
        heap, depth = longer, depth + 1
    return len(lines) - 1 if lines[-1] else tuple(heap)


def journal_of(text, arms):
    """The model of a queue on which the deeds of a text were done, or the index of the first wrong line."""
    model = Model(arms)
    lines = text.split("\n")
    for index, line in enumerate(lines[:-1]):
        if not DEED_LINE.fullmatch(line):
            return index
        word, *rest = line.split(" ")
        deed = (word, *rest[:1], *map(int, rest[1:]))
        names = model.state()[1]
        if any(abs(key) > GREATEST for key in deed[2:]) or word == "take" and not names:
            return index
        if word == "put" and (deed[1] in names or len(names) == 12) or word in ("change", "drop") and deed[1] not in names:
            return index
        model.do(deed)
    return len(lines) - 1 if lines[-1] else model


def changed_texts(draw, text, many):
    """Texts with a sign left out, put in, doubled or replaced, and with lines exchanged, left out or doubled."""
    yield text
    yield text[:-1]
    for sign in SIGNS:
        yield text + sign
        yield sign + text
    for _ in range(many):
        at = draw.randrange(len(text) + 1)
        sign = draw.choice(SIGNS)
        yield text[:at] + sign + text[at:]
        yield text[:at] + sign + text[at + 1:]
        yield text[:at] + text[at + 1:]
        yield text[:at] + text[at:at + 1] * 2 + text[at + 1:]
        yield text[:at]
    lines = text.split("\n")[:-1]
    for _ in range(many // 4):
        if lines:
            one, other = draw.randrange(len(lines)), draw.randrange(len(lines))
            swapped = list(lines)
            swapped[one], swapped[other] = lines[other], lines[one]
            for changed in (swapped, lines[:one] + lines[one + 1:], lines[:one] + [lines[other]] + lines[one:]):
                yield "".join(line + "\n" for line in changed)


class HeapTextsTest(unittest.TestCase):
    def test_example(self):
        check_example(self, EXAMPLE)

    def check_read(self, text, arms):
        expected = read(text, arms)
        if isinstance(expected, int):
            check_values(self, check_raises(self, BadText, read_heap, text, arms=arms).row, expected)
        else:
            check_values(self, read_heap(text, arms=arms), expected)
            self.assertEqual(write_heap(expected, arms=arms), text)
        return expected

    def test_there_and_back(self):
        for arms in ALL_ARMS:
            for heap in sample_heaps(arms):
                text = check_time(self, write_heap, list(heap), arms=arms)
                check_values(self, text, written(heap, arms))
                check_values(self, check_time(self, read_heap, text, arms=arms), heap)
            ends = (-GREATEST,) + (GREATEST,) * 11
            check_values(self, read_heap(write_heap(ends, arms=arms), arms=arms), ends)
            check_values(self, [write_heap((), arms=arms), read_heap("", arms=arms)], ["", ()])

    def test_changed_texts(self):
        draw = random.Random(1)
        good = bad = 0
        for arms in ALL_ARMS:
            heaps = sample_heaps(arms)
            for heap in draw.sample(heaps, 25) + [heap for heap in heaps if len(heap) == 12][:5]:
                for text in changed_texts(draw, written(heap, arms), 40):
                    found = self.check_read(text, arms)
                    good, bad = good + isinstance(found, tuple), bad + isinstance(found, int)
        self.assertGreater(min(good, bad), 500)

    def test_wrong_lines(self):
        for text, row in (("1\n05\n", 1), ("+1\n", 0), ("-0\n", 0), ("00\n", 0), (" 1\n", 0), ("1 \n", 0), ("\n", 0),
                          ("1\n2  3\n", 1), ("1\n\n", 1), ("1\n2 3", 1), ("1", 0), ("1\n2 3\n4\n ", 3), ("1 2\n", 0),
                          ("1\n2\n3\n", 2), ("1\n2 3 4\n", 1), ("1\n0\n", 1), ("1\n2 0\n", 1), ("1\r\n", 0),
                          ("1\n2\t3\n", 1), ("1000000001\n", 0), ("-1000000001\n", 0), ("1\n2 3\n1\n", 2),
                          ("1\n2 3\n2 2 3\n3\n", 3), ("1\n2 3\n2 2 3 3\n4 4 4 4 4 4\n", 3), ("-\n", 0), ("--1\n", 0),
                          ("1-\n", 0), ("1_0\n", 0), ("\u0661\n", 0), ("\u00b2\n", 0), ("9" * 5000 + "\n", 0),
                          ("-" + "9" * 5000 + "\n", 0), ("0" * 5000 + "\n", 0), ("1\n" + "2 " * 9000 + "\n", 1),
                          ("1.0\n", 0), ("1e3\n", 0), ("0x1\n", 0), ("1,2\n", 0), ("a\n", 0), ("1\x0b2\n", 0),
                          ("1\u20282\n", 0), ("- 1\n", 0), ("True\n", 0)):
            check_values(self, check_raises(self, BadText, read_heap, text).row, row)
            self.assertEqual(read(text, 2), row)
        check_values(self, [read_heap("1\n2 3\n2 2 3 3\n4 4 4 4 4\n"), read_heap("0\n"), read_heap("-7\n-7\n")],
                     [(1, 2, 3, 2, 2, 3, 3, 4, 4, 4, 4, 4), (0,), (-7, -7)])
        check_values(self, [read_heap("1000000000\n"), read_heap("-1000000000\n")], [(GREATEST,), (-GREATEST,)])

    def test_too_many_keys(self):
        for arms in ALL_ARMS:
            for many in range(13, 30):
                text = written([5] * many, arms)
                row = read(text, arms)
                self.assertIs(type(row), int)
                check_values(self, check_raises(self, BadText, read_heap, text, arms=arms).row, row)
            check_values(self, read_heap(written([5] * 12, arms), arms=arms), (5,) * 12)

    def test_errors(self):
        for work in (read_heap, read_journal):
            wrong = [thing for thing in not_integers() if not isinstance(thing, str)]
            for thing in wrong + [0, 10 ** 5000, b"1\n", ["1\n"], ("1\n",), {"1\n": 1}]:
                check_values(self, check_raises(self, BadText, work, thing).row, None)
            check_error_order(self, work, {"text": ""}, [(BadArms, "arms", bad_arms()),
                                                         (BadText, "text", wrong + ["1", "1\n1", " ", "\n"])])
            check_arms_errors(self, work, "", worse=[(None,), ("x",)])
            self.assertRaises(TypeError, work, "", 2)
        check_heap_errors(self, write_heap)
        check_arms_errors(self, write_heap, (1, 2), worse=[((2, 1),), (None,)])
        self.assertRaises(TypeError, write_heap, (1, 2), 2)

    def test_two_arms_by_default(self):
        row = [1, 5, 3, 9, 6]
        check_values(self, [write_heap(row), write_heap(row=tuple(row)), read_heap(text="1\n5 3\n9 6\n"), row],
                     ["1\n5 3\n9 6\n", "1\n5 3\n9 6\n", (1, 5, 3, 9, 6), [1, 5, 3, 9, 6]])
        check_values(self, read_heap("1\n5 3\n9 6\n", arms=2), (1, 5, 3, 9, 6))
        check_values(self, check_raises(self, BadText, read_heap, "1\n5 3\n9 6\n", arms=3).row, 2)


class JournalTextsTest(unittest.TestCase):
    def check_read(self, text, arms):
        expected = journal_of(text, arms)
        if isinstance(expected, int):
            check_values(self, check_raises(self, BadText, read_journal, text, arms=arms).row, expected)
            return False
        found = read_journal(text, arms=arms)
        self.assertIs(type(found), Queue)
        check_values(self, (found.heap, found.names, found.journal), expected.state())
        check_values(self, (found.arms, write_journal(found)), (arms, text))
        return True

    def queue_of(self, draw, arms, many, kind):
        queue = Queue(arms=arms)
        for _ in range(many):
            do(queue, drawn_deed(draw, queue.names, kind))
        return queue

    def test_there_and_back(self):
        draw = random.Random(2)
        for arms in ALL_ARMS:
            for kind in range(3):
                for many in (0, 1, 2, 5, 20, 60):
                    queue = self.queue_of(draw, arms, many, kind)
                    text = check_time(self, write_journal, queue)
                    expected = "".join(" ".join(map(str, deed)) + "\n" for deed in queue.journal)
                    check_values(self, text, expected)
                    self.assertTrue(self.check_read(text, arms))
                    other = check_time(self, read_journal, text, arms=arms)
                    for _ in range(many):
                        check_values(self, other.undo(), queue.undo())
                        check_values(self, (other.heap, other.names), (queue.heap, queue.names))
                        check_values(self, write_journal(other), write_journal(queue))
        check_values(self, [write_journal(Queue()), len(read_journal(""))], ["", 0])

    def test_changed_texts(self):
        draw = random.Random(3)
        good = bad = 0
        for arms in ALL_ARMS:
            for many in (0, 1, 3, 6, 12, 20):
                text = write_journal(self.queue_of(draw, arms, many, draw.randrange(3)))
                for changed in changed_texts(draw, text, 60):
                    found = self.check_read(changed, arms)
                    good, bad = good + found, bad + (not found)
        self.assertGreater(min(good, bad), 500)

    def test_wrong_lines(self):
        begun = "put ab 3\nput b 4\n"
        for line in ("put", "put c", "put c 05", "put c +5", "put c -0", "put c 5 ", " put c 5", "put  c 5", "put c  5",
                     "put c 5 5", "put ab 3", "put C 5", "put c1 5", "put abcdefghi 5", "put c 1000000001",
                     "put c -1000000001", "put c five", "put c " + "9" * 5000, "put \u00e4 5", "put c \u0665", "Put c 5",
                     "take ", " take", "take ab", "TAKE", "take\r", "change ab", "change c 5", "change ab 05",
                     "change ab 1000000001", "change ab 4 4", "change AB 4", "drop", "drop c", "drop ab 3", "drop ab ",
                     "drop  ab", "", " ", "undo", "branch", "put c 5\t", "put\tc 5", "put c 5\r", "put c 5;take",
                     "put c true", "put c None", "put c 1_0", "put c 1.0"):
            for rest in ("", "take\n", "put"):
                text = begun + line + "\n" + rest
                check_values(self, check_raises(self, BadText, read_journal, text).row, 2)
                self.assertEqual(journal_of(text, 2), 2)
        for line in ("put c 0", "put c -1", "put c -1000000000", "take", "change ab 1000000000", "drop b", "put take 1",
                     "put put 7", "put drop 0"):
            self.assertTrue(self.check_read(begun + line + "\n", 2))
            check_values(self, check_raises(self, BadText, read_journal, begun + line).row, 2)
        for text in ("take\n", "drop a\n", "change a 1\n"):
            check_values(self, check_raises(self, BadText, read_journal, text).row, 0)

    def test_twelve_names(self):
        text = "".join(f"put {name} {number}\n" for number, name in enumerate(NAMES[:12]))
        self.assertTrue(self.check_read(text, 2))
        check_values(self, check_raises(self, BadText, read_journal, text + f"put {NAMES[12]} 3\n").row, 12)
        self.assertTrue(self.check_read(text + f"take\nput {NAMES[12]} 3\n", 2))

    def test_what_undoing_leaves(self):
        queue = read_journal("put a 3\nput b 2\ntake\n", arms=3)
        check_values(self, [queue.arms, queue.undo(), write_journal(queue)], [3, ("take",), "put a 3\nput b 2\n"])
        with queue.trial():
            queue.drop("a")
            check_values(self, write_journal(queue=queue), "put a 3\nput b 2\ndrop a\n")
        check_values(self, [write_journal(queue), read_journal(text="put a 3\n").arms], ["put a 3\nput b 2\n", 2])


if __name__ == "__main__":
    unittest.main()

"""What several tests need: wrong values, oracles, and the examples of the document."""

import doctest
import functools
import itertools
import time

ALL_ARMS = (1, 2, 3, 4)
GREATEST = 10 ** 9


class Odd:
    """Equal to everything, and of no kind that the document knows."""

    def __eq__(self, other):
        return True

    __hash__ = None


def not_integers():
    """Values that are no integers for the package; floats are left out, as the document does."""
    return [None, True, False, "1", "", b"1", [], [1], (), (1,), {}, {1: 1}, set(), {1}, range(2), slice(0, 1),
            object(), Odd(), len, int, iter([1])]


def bad_arms():
    return not_integers() + [0, 5, -1, 10 ** 30, -10 ** 30]


def bad_keys():
    return not_integers() + [-GREATEST - 1, GREATEST + 1, 10 ** 30, -10 ** 30]


def bad_rows():
    """Pairs of a value that is not a row and of the index that the error must have."""
    wrong = [(thing, None) for thing in not_integers() + [0, 5] if not isinstance(thing, (list, tuple))]
    wrong += [([0] * 13, None), ((0,) * 13, None), ([None] * 13, None), ([[]] * 20, None), ("12", None)]
    for key in bad_keys():
        wrong += [([key], 0), ((key,), 0), ([5, key], 1), ((1, 2, key, 4), 2), ([0] * 11 + [key], 11),
                  ([1, key, key], 1), ([key] * 12, 0)]
    return wrong


def parent(place, arms):
    return (place - 1) // arms


def up(place, arms):
    """The places from a place up to the root, found by walking."""
    walk = [place]
    while walk[-1]:
        walk.append(parent(walk[-1], arms))
    return walk


def heap_like(row, arms):
    return all(row[parent(place, arms)] <= row[place] for place in range(1, len(row)))


def first_fault(row, arms):
    return next(place for place in range(1, len(row)) if row[place] < row[parent(place, arms)])


def sample_rows(most=12):
    """Rows of 0 to `most` keys: some systematic ones, and pseudo-random ones that are always the same."""
    rows = [row for many in range(5) for row in itertools.product(range(3), repeat=many)]
    rows += list(itertools.permutations(range(5)))
    state = 12345
    for many in range(most + 1):
        rows += [tuple(range(many)), tuple(range(many))[::-1], (7,) * many]
        for span in (2, 4, 9, 10 ** 6):
            for _ in range(6):
                row = []
                for _ in range(many):
                    state = (state * 1103515245 + 12345) % 2 ** 31
                    row.append((state >> 8) % span - span // 2)
                rows.append(tuple(row))
    return [row for row in rows if len(row) <= most]


def check_example(case, text):
    """Run an example of the document as it is written there."""
    example = doctest.DocTestParser().get_doctest(text, {}, case.id(), None, 0)
    case.assertTrue(example.examples)
    told = []
    results = doctest.DocTestRunner(verbose=False).run(example, out=told.append)
    case.assertEqual(results.failed, 0, "".join(told))


def check_raises(case, error, work, *args, **more):
    """Check that a call raises exactly this error; return the error."""
    try:
        work(*args, **more)
    except Exception as caught:
        case.assertIs(type(caught), error, (work, args, more))
        return caught
    case.fail(f"{work} raised nothing for {args} {more}")


def check_row_errors(case, work, *rest, **more):
    """Check that a function refuses, as its first argument, all that is not a row, with the right index."""
    from heaprows.errors import BadRow
    for thing, index in bad_rows():
        error = check_raises(case, BadRow, work, thing, *rest, **more)
        case.assertIs(type(error.index), type(index), thing)
        case.assertEqual(error.index, index, thing)


def check_arms_errors(case, work, *args, worse=()):
    """Check that a function refuses bad arms before all else: with good arguments, and with worse ones."""
    from heaprows.errors import BadArms
    for arms in bad_arms():
        check_raises(case, BadArms, work, *args, arms=arms)
        for wrong in worse:
            check_raises(case, BadArms, work, *wrong, arms=arms)
    for arms in ALL_ARMS:
        work(*args, arms=arms)


def check_heap_errors(case, work, *rest):
    """Check that a function refuses, as its first argument, what is no row and then what is no heap."""
    from heaprows.errors import NotHeap
    check_row_errors(case, work, *rest)
    for row in sample_rows():
        for arms in ALL_ARMS:
            if not heap_like(row, arms):
                error = check_raises(case, NotHeap, work, list(row), *rest, arms=arms)
                case.assertEqual(error.place, first_fault(row, arms))


def step_up(row, place, arms):
    """The row after a key went up, its way, and the looks, worked out step by step."""
    row = list(row)
    if place == 0:
        return tuple(row), (place,), 0
    above = parent(place, arms)
    if not row[place] < row[above]:
        return tuple(row), (place,), 1
    row[place], row[above] = row[above], row[place]
    after, way, looks = step_up(row, above, arms)
    return after, (place,) + way, looks + 1


def children(place, many, arms):
    return [other for other in range(1, many) if parent(other, arms) == place]


def first_least(row, places):
    least = min(row[place] for place in places)
    return [place for place in places if row[place] == least][0]


def step_down(row, place, arms):
    """The row after a key went down, its way, and the looks, worked out step by step."""
    row = list(row)
    below = children(place, len(row), arms)
    if not below:
        return tuple(row), (place,), 0
    child = first_least(row, below)
    if not row[place] > row[child]:
        return tuple(row), (place,), len(below)
    row[place], row[child] = row[child], row[place]
    after, way, looks = step_down(row, child, arms)
    return after, (place,) + way, looks + len(below)


def sample_heaps(arms, most=12):
    """Heaps of 0 to `most` keys: the sample rows that are heaps, and the others with their keys put in one by one."""
    found = {}
    for row in sample_rows(most):
        heap = ()
        for key in row:
            heap = step_up(heap + (key,), len(heap), arms)[0]
        found[heap] = True
        if heap_like(row, arms):
            found[row] = True
    return sorted(found)


def all_orders_that_are_heaps(keys, arms):
    return sorted({row for row in itertools.permutations(keys) if heap_like(row, arms)})


def check_values(case, found, expected):
    """Check values and their kinds, so that True is not taken for 1, nor a list for a tuple."""
    case.assertEqual(found, expected)
    case.assertEqual(repr(found), repr(expected))


@functools.lru_cache(maxsize=None)
def full_heaps(many, arms):
    """All heaps of the integers from 0 to many - 1: those of one place less, with room made for each last key."""
    if many == 0:
        return ((),)
    last = many - 1
    found = []
    for heap in full_heaps(last, arms):
        for key in range(many):
            row = tuple(other + (other >= key) for other in heap) + (key,)
            if heap_like(row, arms):
                found.append(row)
    return tuple(sorted(found))


def subtree(place, many, arms):
    return [other for other in range(many) if place in up(other, arms)]


def first_same(row):
    return next(place for place in range(len(row)) if row[place] in row[:place])


def check_same_keys(case, work, *rest):
    """Check that a function refuses heaps with equal keys as its first argument, with the right place."""
    from heaprows.errors import SameKeys
    for arms in ALL_ARMS:
        for heap in sample_heaps(arms)[::3]:
            if len(set(heap)) < len(heap):
                error = check_raises(case, SameKeys, work, list(heap), *rest, arms=arms)
                check_values(case, error.place, first_same(heap))


def check_error_order(case, work, good, wrongs):
    """Check the errors of a function, given as (error, name of an argument, wrong values) in the documented order.

    Each wrong value alone raises its error; of two wrong arguments, the one with the earlier error is told.
    """
    for at, (error, name, values) in enumerate(wrongs):
        work(**good)
        for value in values:
            check_raises(case, error, work, **{**good, name: value})
        for _, other, more in wrongs[at + 1:]:
            if other != name:
                for value in values[:7] + values[-3:]:
                    for worse in more[:7] + more[-3:]:
                        check_raises(case, error, work, **{**good, name: value, other: worse})


def bad_row_values():
    return [thing for thing, _ in bad_rows()]


def bad_integers(least, greatest):
    """Values that are no integers from least to greatest."""
    return not_integers() + [least - 1, greatest + 1, 10 ** 30, -10 ** 30]


def check_equality(case, make, same, others, *more):
    """Check that an object equals one made with the same, and neither ones made with others nor anything else."""
    thing = make(*same)
    case.assertIs(thing == make(*same), True)
    case.assertIs(thing != make(*same), False)
    for other in [make(*args) for args in others] + not_integers() + [1, same, same[0]] + list(more):
        case.assertIs(thing == other, False)
        case.assertIs(thing != other, True)
    case.assertIn("__eq__", vars(make))


def check_time(case, work, *args, **more):
    """Check that an answer comes within a few seconds; return it."""
    begun = time.perf_counter()
    found = work(*args, **more)
    case.assertLess(time.perf_counter() - begun, 3, (work, args, more))
    return found

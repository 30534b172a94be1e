import itertools
import random
import unittest

from heaprows.errors import BadArms, BadRow, TooLarge
from heaprows.mending import Mended, fewest_changed, kept_sets, mend
from helpers import (ALL_ARMS, GREATEST, bad_arms, bad_row_values, check_arms_errors, check_equality,
                     check_error_order, check_example, check_raises, check_row_errors, check_time, check_values,
                     heap_like, sample_rows, up)

EXAMPLE = """
>>> from heaprows.mending import Mended, fewest_changed, kept_sets, mend
>>> row = [5, 2, 7, 6, 1]
>>> mine = Mended((2, 2, 7, 6, 2), (1, 2, 3), [(0, 1, 4), (2,), (3,)])
>>> [fewest_changed(row), fewest_changed(row, arms=1), kept_sets(row), mine.shows(row), mend(row).shows(row)]
[2, 3, [(0, 2, 3), (1, 2, 3), (2, 3, 4)], True, True]
"""
ODD_PLACES = (-1, 12, 13, 10 ** 30, -10 ** 30)


def drawn_rows(most, times=6):
    draw = random.Random(21)
    found = [tuple(draw.randint(-span, span) for _ in range(many)) for many in range(most + 1)
             for span in (1, 2, 5, 50) for _ in range(times)]
    found += [tuple(range(many)) for many in range(most + 1)] + [tuple(range(many))[::-1] for many in range(most + 1)]
    return found + [(3,) * many for many in range(most + 1)]


def can_keep(row, places, arms):
    """Whether no kept key is less than a kept key above it; the others can then be changed to fit between them."""
    return all(row[above] <= row[place] for place in places for above in up(place, arms) if above in places)


def largest_sets(row, arms):
    """All sets of places that can be kept and have as many places as possible, found among all sets of places."""
    for size in range(len(row), -1, -1):
        found = [places for places in itertools.combinations(range(len(row)), size) if can_keep(row, places, arms)]
        if found:
            return found


def is_chain(chain, row, arms):
    return (len(chain) > 0 and all(0 <= place < len(row) for place in chain)
            and all(upper in up(lower, arms)[1:] and row[lower] < row[upper] for upper, lower in zip(chain, chain[1:])))


def is_mended(changed, kept, chains, row, arms):
    """Whether the three are as the document says, worked out on its own."""
    if len(changed) != len(row) or not heap_like(changed, arms):
        return False
    if kept != tuple(place for place in range(len(row)) if changed[place] == row[place]):
        return False
    if len(chains) != len(kept) or not all(is_chain(chain, row, arms) for chain in chains):
        return False
    return sorted(place for chain in chains for place in chain) == list(range(len(row)))


class MendTest(unittest.TestCase):
    def test_example(self):
        check_example(self, EXAMPLE)

    def test_all_sets(self):
        for row in drawn_rows(7) + list(itertools.permutations(range(4))) + list(itertools.product((0, 1), repeat=5)):
            for arms in ALL_ARMS:
                sets = largest_sets(row, arms)
                for given in (row, list(row)):
                    check_values(self, kept_sets(given, arms=arms), sets)
                    check_values(self, fewest_changed(given, arms=arms), len(row) - len(sets[0]))
                    found = mend(given, arms=arms)
                    self.assertIn(found.kept, sets)
                    self.check_mended(found, given, arms)

    def check_mended(self, found, row, arms):
        self.assertIs(type(found), Mended)
        self.assertEqual([type(found.row), type(found.kept), type(found.chains)], [tuple, tuple, list])
        self.assertTrue(all(type(chain) is tuple for chain in found.chains))
        self.assertTrue(is_mended(found.row, found.kept, found.chains, row, arms), (row, arms, vars(found)))
        self.assertTrue(all(-GREATEST <= key <= GREATEST for key in found.row))
        self.assertEqual(fewest_changed(row, arms=arms), len(row) - len(found.kept))
        self.assertIs(found.shows(row, arms=arms), True)

    def test_up_to_twelve_keys(self):
        for row in drawn_rows(12) + sample_rows():
            for arms in ALL_ARMS:
                self.check_mended(mend(row, arms=arms), row, arms)

    def test_kept_sets_of_ten(self):
        for row in drawn_rows(10, 1):
            if len(row) > 7:
                for arms in ALL_ARMS:
                    check_values(self, kept_sets(row, arms=arms), largest_sets(row, arms))

    def test_heaps_need_no_change(self):
        for row in sample_rows():
            for arms in ALL_ARMS:
                self.assertIs(fewest_changed(row, arms=arms) == 0, heap_like(row, arms))
                if heap_like(row, arms):
                    everywhere = tuple(range(len(row)))
                    found = mend(row, arms=arms)
                    self.assertEqual((found.row, found.kept), (row, everywhere))
                    self.assertEqual(sorted(found.chains), [(place,) for place in everywhere])

    def test_ends_of_the_keys(self):
        for row in ((GREATEST, -GREATEST), (-GREATEST, GREATEST, -GREATEST), (0, -GREATEST, GREATEST, -GREATEST),
                    (GREATEST, GREATEST, -GREATEST, -GREATEST, -GREATEST)):
            for arms in ALL_ARMS:
                self.check_mended(mend(row, arms=arms), row, arms)

    def test_no_keys(self):
        for arms in ALL_ARMS:
            for row in ([], ()):
                self.assertEqual(mend(row, arms=arms), Mended((), (), []))
                check_values(self, [fewest_changed(row, arms=arms), kept_sets(row, arms=arms)], [0, [()]])
                self.assertIs(Mended((), (), []).shows(row, arms=arms), True)
                for wrong in (((0,), (), []), ((), (0,), []), ((), (), [()]), ((), (), [(0,)]), ((), (0,), [(0,)])):
                    self.assertIs(Mended(*wrong).shows(row, arms=arms), False)

    def test_two_arms_by_default(self):
        for row in drawn_rows(6, 1):
            self.assertEqual(mend(row), mend(row, arms=2))
            self.assertEqual(kept_sets(row), kept_sets(row, arms=2))
            self.assertEqual(fewest_changed(row), fewest_changed(row, arms=2))
            self.assertIs(mend(row).shows(row), True)


class ShowsTest(unittest.TestCase):
    def check_shows(self, changed, kept, chains, row, arms):
        expected = is_mended(changed, kept, chains, row, arms)
        self.assertIs(Mended(changed, kept, chains).shows(row, arms=arms), expected, (changed, kept, chains, row))
        return expected

    def test_other_rows(self):
        for arms in ALL_ARMS:
            for row in ((1, 0), (0, 1), (2, 0, 1), (1, 2, 0, 1)):
                found = mend(row, arms=arms)
                shown = 0
                for changed in itertools.product(range(-1, 4), repeat=len(row)):
                    kept = tuple(place for place in range(len(row)) if changed[place] == row[place])
                    shown += self.check_shows(changed, kept, found.chains, row, arms)
                    self.check_shows(changed, found.kept, found.chains, row, arms)
                    self.check_shows(changed[:-1], found.kept, found.chains, row, arms)
                    self.check_shows(changed + (5,), found.kept, found.chains, row, arms)
                self.assertGreater(shown, 0)

    def test_changed_keys_may_be_any_integers(self):
        row = (5, 2, 7, 6, 1)
        chains = [(0, 1, 4), (2,), (3,)]
        for key in (2, 1, 0, -7, -GREATEST):
            self.assertIs(Mended((key, 2, 7, 6, 2), (1, 2, 3), chains).shows(row), True)
        for key in (2, 3, 100, GREATEST):
            self.assertIs(Mended((2, 2, 7, 6, key), (1, 2, 3), chains).shows(row), True)
        self.assertIs(Mended((3, 2, 7, 6, 2), (1, 2, 3), chains).shows(row), False)
        self.assertIs(Mended((2, 2, 7, 6, 1), (1, 2, 3, 4), chains).shows(row), False)
        self.assertIs(Mended((1, 1, 7, 6, 1), (2, 3, 4), chains).shows(row), True)
        # Numbers that are no keys do not make it fail.
        self.assertIn(Mended((-10 ** 30, 2, 7, 6, 10 ** 30), (1, 2, 3), chains).shows(row), (True, False))

    def test_other_kept_places(self):
        for arms in ALL_ARMS:
            for row in drawn_rows(5, 2):
                found = mend(row, arms=arms)
                places = range(len(row))
                for size in range(len(row) + 1):
                    for kept in itertools.combinations(places, size):
                        self.check_shows(found.row, kept, found.chains, row, arms)
                for kept in (found.kept + ODD_PLACES[:1], found.kept[::-1], found.kept + found.kept[:1],
                             found.kept[1:] + (-1,), found.kept[:-1] + (10 ** 30,), (13,) * len(found.kept)):
                    self.check_shows(found.row, kept, found.chains, row, arms)

    def test_other_chains(self):
        for arms in ALL_ARMS:
            for row in drawn_rows(7, 3):
                found = mend(row, arms=arms)
                chains = found.chains
                others = [chains[::-1], chains[1:], chains[:-1], chains + [()], chains + chains[:1], [], [()],
                          [chain[::-1] for chain in chains], [chain[1:] for chain in chains],
                          [(place,) for place in range(len(row))], [tuple(range(len(row)))], chains[1:] + [()]]
                for at, chain in enumerate(chains):
                    for place in range(len(row)):
                        others.append(chains[:at] + [chain + (place,)] + chains[at + 1:])
                        others.append(chains[:at] + [(place,)] + chains[at + 1:])
                    for place in ODD_PLACES + (-2, -len(row), len(row)):
                        for wrong in ((place,), chain + (place,), (place,) + chain, chain[:-1] + (place,)):
                            others.append(chains[:at] + [wrong] + chains[at + 1:])
                for chain, other in itertools.permutations(chains, 2):
                    rest = [one for one in chains if one not in (chain, other)]
                    others += [rest + [chain + other], rest + [chain + other[-1:], other[:-1]],
                               rest + [chain[:1] + other, chain[1:]], rest + [tuple(sorted(chain + other)), ()]]
                for changed in others:
                    self.check_shows(found.row, found.kept, changed, row, arms)

    def test_chains_of_another_row(self):
        # The chains fall in the row itself, not in the heap that is made of it, and with equal keys not at all.
        self.assertIs(Mended((1, 1), (1,), [(0, 1)]).shows((2, 1)), True)
        self.assertIs(Mended((1, 1), (1,), [(0, 1)]).shows((1, 1)), False)
        self.assertIs(Mended((1, 1), (0, 1), [(0,), (1,)]).shows((1, 1)), True)
        self.assertIs(Mended((0, 0, 0), (1,), [(0, 1), (2,)]).shows((5, 0, 1)), False)
        self.assertIs(Mended((0, 0, 1), (1, 2), [(0, 1), (2,)]).shows((5, 0, 1)), True)
        self.assertIs(Mended((0, 0, 1), (1, 2), [(0,), (1, 2)]).shows((5, 0, 1)), False)
        self.assertIs(Mended((0, 0, 1), (1, 2), [(0, 2), (1,)]).shows((5, 0, 1)), True)

    def test_current_attributes(self):
        row = (5, 2, 7, 6, 1)
        found = mend(row)
        for name, value in (("row", (2, 2, 7, 6, 9)), ("kept", (0,)), ("chains", [])):
            kept = getattr(found, name)
            setattr(found, name, value)
            self.assertIs(found.shows(row), is_mended(found.row, found.kept, found.chains, row, 2))
            setattr(found, name, kept)
        self.assertIs(found.shows(row), True)
        found.chains.pop()
        self.assertIs(found.shows(row), False)
        self.assertIs(mend(row).shows(row), True)

    def test_attributes_and_equality(self):
        row, kept, chains = [0, 1], [0], [[0, 1]]
        made = Mended(row, kept, chains)
        row.clear()
        kept.clear()
        chains[0].append(7)
        chains.append((1,))
        check_values(self, vars(made), {"row": (0, 1), "kept": (0,), "chains": [(0, 1)]})
        check_values(self, vars(Mended(row=[], kept=[], chains=[])), {"row": (), "kept": (), "chains": []})
        check_equality(self, Mended, ((0, 1), (0,), [(0, 1)]),
                       [((0, 2), (0,), [(0, 1)]), ((0, 1), (1,), [(0, 1)]), ((0, 1), (0,), [(0,), (1,)])])


class MendingErrorsTest(unittest.TestCase):
    works = [mend, fewest_changed, kept_sets, Mended((0, 0), (0, 1), [(0,), (1,)]).shows]

    def test_errors(self):
        for work in self.works:
            check_row_errors(self, work)
            check_row_errors(self, work, arms=3)
            check_arms_errors(self, work, [2, 1], worse=[(None,), ([None],), ([0] * 13,), ([0] * 11 + [None],)])
            check_error_order(self, work, {"row": [2, 1]},
                              [(BadArms, "arms", bad_arms()), (BadRow, "row", bad_row_values())])
            self.assertRaises(TypeError, work, [1], 2)
        wrongs = [(BadArms, "arms", bad_arms()), (TooLarge, "row", [[0] * 11, tuple(range(12))])]
        check_error_order(self, kept_sets, {"row": [2, 1]}, wrongs)

    def test_limits(self):
        for arms in ALL_ARMS:
            for row in ((5,) * 12, tuple(range(12)), tuple(range(12))[::-1], (6, 1, 9, 3, 3, 8, 0, 7, 2, 11, 5, 4)):
                found = check_time(self, mend, row, arms=arms)
                self.assertIs(check_time(self, found.shows, row, arms=arms), True)
                check_time(self, fewest_changed, row, arms=arms)
                check_time(self, kept_sets, row[:10], arms=arms)
                for many in (11, 12):
                    check_raises(self, TooLarge, kept_sets, row[:many], arms=arms)

    def test_results_are_new(self):
        row = (5, 2, 7, 6, 1)
        first = kept_sets(row)
        kept = list(first)
        first.clear()
        self.assertEqual(kept_sets(row), kept)
        one, other = mend(row), mend(row)
        one.chains.clear()
        self.assertIs(other.shows(row), True)
        self.assertIs(mend(row).shows(row), True)
        kept_sets([]).clear()
        self.assertEqual(kept_sets([]), [()])

    def test_arguments_are_left_alone(self):
        for work in self.works:
            row = [5, 2, 7, 6, 1]
            found = work(row)
            self.assertEqual(row, [5, 2, 7, 6, 1])
            row.clear()
            self.assertEqual(found, work((5, 2, 7, 6, 1)))


if __name__ == "__main__":
    unittest.main()

import inspect
import unittest

from heaprows import errors
from heaprows.bounds import fit
from heaprows.building import decode, stops_at
from heaprows.errors import HeapError
from heaprows.heaps import push
from heaprows.pushing import undo_push
from heaprows.rows import is_heap
from heaprows.standing import closed_index, closed_sets, stand
from heaprows.taking import undo_take
from heaprows.trees import Tree

PLAIN = ("BadArms BadMany BadPlace BadKey BadIndex Empty Full TooLarge BadRank BadSet BadOrder BadCode BadNumber "
         "BadPool BadState BadGoal BadRoom BadName NothingDone").split()
WITH = {"BadRow": "index", "NotHeap": "place", "SameKeys": "place", "BadBounds": "place", "BadStops": "index",
        "BadDeed": "index", "BadText": "row"}


class ErrorsTest(unittest.TestCase):
    def test_base(self):
        self.assertEqual(HeapError.__bases__, (ValueError,))

    def test_all_are_there(self):
        own = {name for name, thing in vars(errors).items() if inspect.isclass(thing)}
        self.assertEqual(own, {"HeapError", *PLAIN, *WITH})

    def test_direct_subclasses(self):
        for name in [*PLAIN, *WITH]:
            error = getattr(errors, name)
            self.assertEqual(error.__bases__, (HeapError,), name)
            self.assertEqual(error.__module__, "heaprows.errors")
            self.assertEqual(error.__name__, name)

    def test_none_is_a_subclass_of_another_one(self):
        for name in [*PLAIN, *WITH]:
            for other in [*PLAIN, *WITH]:
                if name != other:
                    self.assertFalse(issubclass(getattr(errors, name), getattr(errors, other)), (name, other))

    def test_attributes(self):
        for name, attribute in WITH.items():
            error = getattr(errors, name)
            for value in (None, 0, 3):
                self.assertEqual(getattr(error(value), attribute), value, name)
                self.assertEqual(vars(error(value)), {attribute: value}, name)

    def test_great_numbers(self):
        # Python refuses to write these numbers out, also in what a failed assertion tells.
        for name, attribute in WITH.items():
            kind = getattr(errors, name)
            for number in (10 ** 5000, -10 ** 5000, 10 ** 4300, 10 ** 4299, -1):
                for error in (kind(number), kind(**{attribute: number})):
                    self.assertTrue(getattr(error, attribute) == number, name)
                    self.assertIs(type(error), kind)
                    self.assertTrue(str(error) and repr(error), name)

    def test_great_numbers_as_arguments(self):
        for great in (10 ** 5000, -10 ** 5000):
            for work, args, kind in ((is_heap, ([1, great],), errors.BadRow), (is_heap, ([1, [great]],), errors.BadRow),
                                     (push, ([1], great), errors.BadKey), (Tree, (great,), errors.BadMany),
                                     (fit, ([(0, great)],), errors.BadBounds), (fit, ([(great, great)],), errors.BadBounds),
                                     (decode, ([1, 2], [(0, great)]), errors.BadStops),
                                     (decode, ([1, 2], [(great, 0)]), errors.BadStops),
                                     (stops_at, (3, great), errors.BadIndex), (undo_push, ([1], great), errors.BadPlace),
                                     (undo_take, ([1], great, 0), errors.BadKey), (stand, (3, 0, great), errors.BadRank),
                                     (closed_sets, (3, great), errors.BadNumber),
                                     (closed_index, (3, (great,)), errors.BadSet)):
                with self.assertRaises(kind) as caught:
                    work(*args)
                self.assertTrue(str(caught.exception))
            with self.assertRaises(errors.BadArms):
                is_heap([], arms=great)

    def test_can_be_caught_by_the_base_class(self):
        for name in PLAIN:
            with self.assertRaises(HeapError):
                raise getattr(errors, name)("why")
        for name in WITH:
            with self.assertRaises(ValueError):
                raise getattr(errors, name)(2)

    def test_have_a_message(self):
        for name in WITH:
            self.assertTrue(str(getattr(errors, name)(1)), name)


if __name__ == "__main__":
    unittest.main()

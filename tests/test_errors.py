import inspect
import unittest

from heaprows import errors
from heaprows.errors import HeapError

PLAIN = ("BadArms BadMany BadPlace BadKey BadIndex Empty Full TooLarge BadRank BadSet BadOrder BadCode BadNumber "
         "BadPool BadState BadGoal BadRoom BadName NothingDone").split()
WITH = {"BadRow": "index", "NotHeap": "place", "SameKeys": "place", "BadBounds": "place", "BadStops": "index",
        "BadDeed": "index", "BadText": "row"}


class ErrorsTest(unittest.TestCase):
    def test_base(self):
        self.assertEqual(HeapError.__bases__, (ValueError,))

    def test_all_are_there(self):
        own = {name for name, thing in vars(errors).items() if inspect.isclass(thing)}
        self.assertEqual(own, {"HeapError", *PLAIN, *WITH})

    def test_direct_subclasses(self):
        for name in [*PLAIN, *WITH]:
            error = getattr(errors, name)
            self.assertEqual(error.__bases__, (HeapError,), name)
            self.assertEqual(error.__module__, "heaprows.errors")
            self.assertEqual(error.__name__, name)

    def test_none_is_a_subclass_of_another_one(self):
        for name in [*PLAIN, *WITH]:
            for other in [*PLAIN, *WITH]:
                if name != other:
                    self.assertFalse(issubclass(getattr(errors, name), getattr(errors, other)), (name, other))

    def test_attributes(self):
        for name, attribute in WITH.items():
            error = getattr(errors, name)
            for value in (None, 0, 3):
                self.assertEqual(getattr(error(value), attribute), value, name)
                self.assertEqual(vars(error(value)), {attribute: value}, name)

    def test_can_be_caught_by_the_base_class(self):
        for name in PLAIN:
            with self.assertRaises(HeapError):
                raise getattr(errors, name)("why")
        for name in WITH:
            with self.assertRaises(ValueError):
                raise getattr(errors, name)(2)

    def test_have_a_message(self):
        for name in WITH:
            self.assertTrue(str(getattr(errors, name)(1)), name)


if __name__ == "__main__":
    unittest.main()

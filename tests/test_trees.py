import unittest

from heaprows.errors import BadArms, BadMany, BadPlace
from heaprows.trees import Tree
from helpers import (ALL_ARMS, Odd, bad_arms, check_arms_errors, check_example, check_raises, check_row_errors,
                     not_integers, parent, up)

EXAMPLE = """
>>> from heaprows.trees import Tree
>>> tree = Tree(6)
>>> [[tree[place] for place in tree], tree.parent(5), tree.way_to(4), tree.subtree(1), tree.height(0), \
Tree(6, arms=3)[1], 6 in tree]
[[(1, 2), (3, 4), (5,), (), (), ()], 2, (0, 1, 4), (1, 3, 4), 2, (4, 5), False]
"""


def all_trees():
    return [(many, arms, Tree(many, arms=arms)) for many in range(13) for arms in ALL_ARMS]


class TreeTest(unittest.TestCase):
    def test_example(self):
        check_example(self, EXAMPLE)

    def test_attributes(self):
        for many, arms, tree in all_trees():
            self.assertEqual((tree.many, tree.arms), (many, arms))
        self.assertEqual((Tree(7).many, Tree(7).arms), (7, 2))
        self.assertEqual((Tree(many=3, arms=4).many, Tree(many=3, arms=4).arms), (3, 4))

    def test_arms_are_keyword_only(self):
        self.assertRaises(TypeError, Tree, 3, 2)
        self.assertRaises(TypeError, Tree.of, [3], 2)

    def test_places(self):
        for many, _, tree in all_trees():
            self.assertEqual(len(tree), many)
            self.assertEqual(list(tree), list(range(many)))
            self.assertEqual([(one, other) for one in tree for other in tree],
                             [(one, other) for one in range(many) for other in range(many)])
            for place in range(-3, 16):
                self.assertIs(place in tree, 0 <= place < many)

    def test_in_takes_values_of_any_kind(self):
        for _, _, tree in all_trees():
            for thing in not_integers() + [10 ** 30, -10 ** 30]:
                self.assertIs(thing in tree, False)

    def test_parents_and_children(self):
        for many, arms, tree in all_trees():
            for place in range(many):
                self.assertEqual(tree.parent(place), parent(place, arms) if place else None)
                children = tuple(other for other in range(1, many) if parent(other, arms) == place)
                self.assertIs(type(tree[place]), tuple)
                self.assertEqual(tree[place], children)
                self.assertEqual(tree[place], tuple(other for other in tree if tree.parent(other) == place))

    def test_ways_depths_and_subtrees(self):
        for many, arms, tree in all_trees():
            for place in range(many):
                walk = up(place, arms)
                below = [other for other in range(many) if place in up(other, arms)]
                depths = [len(up(other, arms)) for other in below]
                self.assertIs(type(tree.way_to(place)), tuple)
                self.assertEqual(tree.way_to(place), tuple(reversed(walk)))
                self.assertEqual(tree.depth(place), len(walk) - 1)
                self.assertIs(type(tree.subtree(place)), tuple)
                self.assertEqual(tree.subtree(place), tuple(below))
                self.assertEqual(tree.size(place), len(below))
                self.assertEqual(tree.height(place), max(depths) - len(walk))

    def test_places_by_keyword(self):
        tree = Tree(4)
        found = [tree.parent(place=1), tree.way_to(place=1), tree.depth(place=1), tree.size(place=1),
                 tree.height(place=1), tree.subtree(place=1)]
        self.assertEqual(found, [0, (0, 1), 1, 2, 1, (1, 3)])

    def test_one_place_and_none(self):
        for arms in ALL_ARMS:
            one = Tree(1, arms=arms)
            self.assertEqual([one[0], one.parent(0), one.way_to(0), one.depth(0), one.size(0), one.height(0),
                              one.subtree(0)], [(), None, (0,), 0, 1, 0, (0,)])
            self.assertEqual([len(Tree(0, arms=arms)), list(Tree(0, arms=arms)), 0 in Tree(0, arms=arms)],
                             [0, [], False])

    def test_of(self):
        for many in range(13):
            for arms in ALL_ARMS:
                for row in ([5] * many, (-5,) * many):
                    tree = Tree.of(row, arms=arms)
                    self.assertIs(type(tree), Tree)
                    self.assertEqual((tree.many, tree.arms), (many, arms))
        self.assertEqual(Tree.of(row=[3, 1]), Tree(2))

    def test_of_keeps_nothing(self):
        row = [1, 2, 3]
        tree = Tree.of(row)
        row.append(4)
        self.assertEqual((len(tree), tree.many, list(tree)), (3, 3, [0, 1, 2]))
        self.assertEqual(row, [1, 2, 3, 4])

    def test_equality(self):
        trees = all_trees()
        for many, arms, tree in trees:
            for other_many, other_arms, other in trees:
                same = (many, arms) == (other_many, other_arms)
                self.assertIs(tree == other, same)
                self.assertIs(tree != other, not same)
            self.assertIs(tree == Tree(many, arms=arms), True)

    def test_equal_to_nothing_else(self):
        class Like:
            many, arms = 3, 2

        tree = Tree(3)
        for thing in not_integers() + [3, (3, 2), [0, 1, 2], (0, 1, 2), Odd(), Like()]:
            self.assertIs(tree == thing, False)
            self.assertIs(tree != thing, True)

    def test_bad_arms(self):
        check_arms_errors(self, Tree, 3, worse=[(13,), (None,)])
        check_arms_errors(self, Tree.of, [3], worse=[([None],), (7,), ([0] * 13,)])

    def test_bad_many(self):
        for many in not_integers() + [-1, 13, 10 ** 30, -10 ** 30]:
            check_raises(self, BadMany, Tree, many)
            check_raises(self, BadMany, Tree, many, arms=4)
            for arms in bad_arms()[:3]:
                check_raises(self, BadArms, Tree, many, arms=arms)

    def test_bad_row(self):
        check_row_errors(self, Tree.of)
        check_row_errors(self, Tree.of, arms=3)

    def test_bad_place(self):
        for many, _, tree in all_trees():
            for place in not_integers() + [-1, many, many + 1, 10 ** 30, -10 ** 30]:
                for work in (tree.parent, tree.way_to, tree.depth, tree.size, tree.height, tree.subtree,
                             lambda at: tree[at]):
                    check_raises(self, BadPlace, work, place)

    def test_methods_are_defined_in_the_class(self):
        for name in ("of", "__len__", "__contains__", "__iter__", "__getitem__", "__eq__", "parent", "way_to",
                     "depth", "size", "height", "subtree"):
            self.assertIn(name, vars(Tree))


if __name__ == "__main__":
    unittest.main()

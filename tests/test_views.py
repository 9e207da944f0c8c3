"""[2.1], [2.2]: views, tellings, distance, twins; with [0.3], [0.4] for them."""

import itertools
import random
import unittest

from foldervotes.errors import NoNumber, NoPlace, NoView, OtherBlocks
from foldervotes.trees import Tree, moved
from foldervotes.views import distance, telling, twins, unlike
from tests.things import (ALL_VIEWS, HUGE, all_hung, chance_tree, not_views, not_within,
                          raised, told)

ROW = Tree((0, 1, 2))
LONG = Tree(tuple(range(40)))
BUSH = Tree((0, 1, 1, 2, 2, 4, 6, 7, 0, 9))


def some_trees():
    chance = random.Random(2)
    trees = [ROW, LONG, BUSH, Tree((0,)), Tree((0,) * 40), Tree((2, 3, 4, 5, 6, 0))]
    return trees + [chance_tree(chance, blocks, 4) for blocks in (5, 8, 12, 40)]


class Tellings(unittest.TestCase):
    def test_e01(self):
        found = (telling(ROW, (2, 1), 2), unlike(ROW, Tree((0, 1, 1)), (1, 1)))
        self.assertEqual(found, (((1, 0), ((3, 2),)), (1, 2, 3)))

    def test_head(self):
        self.assertEqual(telling(LONG, (4, 0), 0), ((), ()))
        self.assertEqual(telling(LONG, (4, 2), 0), ((), ((1, 0), (2, 1))))
        self.assertEqual(telling(Tree((0, 0)), (1, 1), 0), ((), ((1, 0), (2, 0))))
        self.assertEqual(telling(Tree((2, 3, 0)), (1, 2), 0), ((), ((2, 3), (3, 0))))

    def test_near_the_head_and_far_from_it(self):
        self.assertEqual(telling(LONG, (4, 4), 1)[0], (0,))
        self.assertEqual(telling(LONG, (4, 4), 2)[0], (1, 0))
        self.assertEqual(telling(LONG, (4, 4), 4)[0], (3, 2, 1, 0))
        self.assertEqual(telling(LONG, (4, 4), 5)[0], (4, 3, 2, 1))
        self.assertEqual(telling(LONG, (4, 4), 20),
                         ((19, 18, 17, 16), ((21, 20), (22, 21), (23, 22), (24, 23))))
        self.assertEqual(telling(LONG, (1, 4), 39), ((38,), ((40, 39),)))
        self.assertEqual(telling(LONG, (1, 4), 40), ((39,), ()))

    def test_ties_ascend_by_blocks(self):
        self.assertEqual(telling(BUSH, (0, 4), 1),
                         ((), ((2, 1), (3, 1), (4, 2), (5, 2), (6, 4), (7, 6))))
        self.assertEqual(telling(Tree((4, 1, 2, 0)), (0, 2), 4), ((), ((1, 4), (2, 1))))

    def test_nothing_is_told(self):
        for tree in some_trees():
            for place in range(len(tree.hung) + 1):
                self.assertEqual(telling(tree, (0, 0), place), ((), ()))

    def test_all_views_and_places(self):
        for tree in some_trees():
            for view in ALL_VIEWS:
                for place in range(len(tree.hung) + 1):
                    found = telling(tree, view, place)
                    self.assertEqual(found, told(tree, view, place), (tree.hung, view, place))
                    self.assertEqual([type(part) for part in (found, *found)], [tuple] * 3)

    def test_what_is_no_view(self):
        for thing in not_views():
            raised(self, NoView, telling, ROW, thing, 1)
            raised(self, NoView, telling, ROW, thing, 9)
            raised(self, NoView, telling, ROW, thing, thing)

    def test_what_is_no_place(self):
        for tree in (ROW, LONG):
            for thing in not_within(0, len(tree.hung)):
                raised(self, NoPlace, telling, tree, (1, 1), thing)
                raised(self, NoPlace, telling, tree, (0, 0), thing)
                raised(self, NoView, telling, tree, (1, 5), thing)


class Unlike(unittest.TestCase):
    def expected(self, one, other, view):
        places = range(len(one.hung) + 1)
        return tuple(p for p in places if told(one, view, p) != told(other, view, p))

    def test_equal_trees(self):
        for tree in some_trees():
            for view in ALL_VIEWS:
                self.assertEqual(unlike(tree, Tree(tree.hung), view), ())

    def test_a_block_hung_elsewhere(self):
        for view in ALL_VIEWS:
            for block, place in ((8, 6), (8, 0), (6, 0), (6, 3), (10, 3), (9, 8), (3, 2)):
                other = moved(BUSH, block, place)
                expected = self.expected(BUSH, other, view)
                self.assertEqual(unlike(BUSH, other, view), expected)
                self.assertEqual(unlike(other, BUSH, view), expected)

    def test_a_few(self):
        flat = Tree((0, 0, 0))
        self.assertEqual(unlike(ROW, flat, (0, 0)), ())
        self.assertEqual(unlike(ROW, flat, (1, 0)), (2, 3))
        self.assertEqual(unlike(ROW, flat, (0, 1)), (0, 1, 2))
        self.assertEqual(unlike(ROW, flat, (4, 4)), (0, 1, 2, 3))
        self.assertEqual(unlike(Tree((0,)), Tree((0,)), (4, 4)), ())

    def test_other_trees(self):
        chance = random.Random(3)
        hungs = all_hung(4)
        for _ in range(150):
            one, other = Tree(chance.choice(hungs)), Tree(chance.choice(hungs))
            for view in ALL_VIEWS:
                self.assertEqual(unlike(one, other, view), self.expected(one, other, view))

    def test_unlike_numbers_of_blocks(self):
        for one, other in itertools.permutations((Tree((0,)), Tree((0, 0)), ROW, LONG), 2):
            raised(self, OtherBlocks, unlike, one, other, (1, 1))
            raised(self, OtherBlocks, unlike, one, other, (0, 0))
            for thing in not_views():
                raised(self, OtherBlocks, unlike, one, other, thing)

    def test_what_is_no_tree_has_other_blocks(self):
        for thing in not_within(1, 0) + [(0, 1, 2), [0, 1, 2]]:
            if not (isinstance(thing, Tree) and thing == ROW):
                raised(self, OtherBlocks, unlike, ROW, thing, (1, 1))
                raised(self, OtherBlocks, unlike, ROW, thing, (1, 5))

    def test_what_is_no_view(self):
        for thing in not_views():
            raised(self, NoView, unlike, ROW, Tree((0, 1, 1)), thing)
            raised(self, NoView, unlike, ROW, ROW, thing)


class Distance(unittest.TestCase):
    def test_of_e05(self):
        self.assertEqual(distance((1, 1)), 3)

    def test_all_views(self):
        table = {
            0: (0, 2, 3, 4, 5),
            1: (1, 3, 4, 5, 6), 2: (1, 3, 4, 5, 6), 3: (1, 3, 4, 5, 6), 4: (1, 3, 4, 5, 6),
        }
        for up, down in ALL_VIEWS:
            self.assertEqual(distance((up, down)), table[up][down], (up, down))

    def test_what_is_no_view(self):
        for thing in not_views():
            raised(self, NoView, distance, thing)


class TheFirstFact(unittest.TestCase):
    """Over all pairs of trees of one to four blocks."""

    def least(self, trees, view):
        """The fewest places at which two are unlike whose heads tell alike, or None."""
        alike = {}
        for tree in trees:
            alike.setdefault(telling(tree, view, 0), []).append(tree)
        found = [len(unlike(one, other, view)) for group in alike.values()
                 for one, other in itertools.combinations(group, 2)]
        return min(found) if found else None

    def test_for_all_views(self):
        for blocks in (1, 2, 3, 4):
            trees = [Tree(hung) for hung in all_hung(blocks)]
            for view in ALL_VIEWS:
                expected = distance(view) if blocks >= view[1] + 2 else None
                self.assertEqual(self.least(trees, view), expected, (blocks, view))


class Twins(unittest.TestCase):
    def test_all_views_and_numbers_of_blocks(self):
        for view in ALL_VIEWS:
            for blocks in range(1, 41):
                pair = twins(view, blocks)
                if blocks < view[1] + 2:
                    self.assertIsNone(pair)
                    continue
                self.check(view, blocks, pair)
                self.assertEqual(pair, twins(view, blocks))

    def check(self, view, blocks, pair):
        self.assertIs(type(pair), tuple)
        one, other = pair
        for tree in pair:
            self.assertIs(type(tree), Tree)
            self.assertEqual(len(tree.hung), blocks)
        self.assertNotEqual(one, other)
        self.assertEqual(told(one, view, 0), told(other, view, 0))
        self.assertEqual(len(unlike(one, other, view)), distance(view))

    def test_fewest_blocks(self):
        self.assertIsNone(twins((0, 0), 1))
        self.assertEqual(len(twins((0, 0), 2)), 2)
        self.assertIsNone(twins((1, 4), 5))
        self.assertEqual(len(twins((1, 4), 6)), 2)

    def test_what_is_no_view(self):
        for thing in not_views():
            raised(self, NoView, twins, thing, 3)
            raised(self, NoView, twins, thing, 0)
            raised(self, NoView, twins, thing, thing)

    def test_what_is_no_number(self):
        for thing in not_within(1, 40) + [0, 41, -1, HUGE]:
            raised(self, NoNumber, twins, (1, 1), thing)
            raised(self, NoNumber, twins, (0, 0), thing)
            raised(self, NoNumber, twins, (4, 4), thing)
            raised(self, NoView, twins, (4, 5), thing)


if __name__ == "__main__":
    unittest.main()

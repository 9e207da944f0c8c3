"""[1.1], [1.2]: trees; with [0.3], [0.4] for them."""

import itertools
import random
import unittest

from foldervotes.errors import BadTree, Beneath, NoBlock, NoOrder, NoPlace
from foldervotes.trees import (Tree, beneath, called, moved, parents, place_of,
                               under)
from tests.things import (HUGE, all_hung, climb, nested, not_within, raised,
                          strange_things)

ROW = (0, 1, 2, 3)
FLAT = (0, 0, 0, 0)
BACKWARDS = (2, 3, 4, 0)
LONG = tuple(range(40))
LONG_BACKWARDS = tuple(range(2, 41)) + (0,)
WIDE = (0,) * 40
HALVES = tuple(block // 2 for block in range(1, 41))
HUNG = [ROW, FLAT, BACKWARDS, (0,), (0, 0), (0, 1), (2, 0), (3, 3, 0, 3, 1, 1),
        (5, 5, 0, 3, 3, 2), LONG, LONG_BACKWARDS, WIDE, HALVES]
SMALL = [hung for blocks in (1, 2, 3, 4) for hung in all_hung(blocks)]


class MakeTrees(unittest.TestCase):
    def part(self, hung):
        return raised(self, BadTree, Tree, hung).part

    def test_right_ones_are_kept(self):
        for hung in HUNG + SMALL:
            tree = Tree(hung)
            self.assertEqual(tree.hung, hung)
            self.assertIs(type(tree.hung), tuple)

    def test_how_many_small_ones_there_are(self):
        for blocks, many in ((1, 1), (2, 3), (3, 16), (4, 125)):
            right = 0
            for hung in itertools.product(range(blocks + 1), repeat=blocks):
                try:
                    Tree(hung)
                    right += 1
                except BadTree:
                    pass
            self.assertEqual(right, many)

    def test_what_is_no_tuple(self):
        for thing in strange_things() + [0, 1, 40, -1, HUGE, range(1), [0, 1], "0", b"\x00"]:
            if not isinstance(thing, tuple):
                self.assertEqual(self.part(thing), "hung")

    def test_how_many_blocks(self):
        self.assertEqual(Tree((0,)).hung, (0,))
        self.assertEqual(Tree(WIDE).hung, WIDE)
        self.assertEqual(self.part(()), "hung")
        self.assertEqual(self.part((0,) * 41), "hung")
        self.assertEqual(self.part(tuple(range(41))), "hung")
        self.assertEqual(self.part((0,) * 1000), "hung")

    def test_too_many_ahead_of_wrong_items(self):
        self.assertEqual(self.part((None,) * 41), "hung")
        self.assertEqual(self.part((1,) * 41), "hung")

    def test_strange_items(self):
        for thing in not_within(0, 3):
            self.assertEqual(self.part((0, thing, 0)), 2)
            self.assertEqual(self.part((thing, thing, thing)), 1)
            self.assertEqual(self.part((0, 0, thing)), 3)

    def test_items_that_are_no_places(self):
        self.assertEqual(self.part((2,)), 1)
        self.assertEqual(self.part((-1,)), 1)
        self.assertEqual(self.part((0, 3)), 2)
        self.assertEqual(self.part((0, 1, 4, -1)), 4)
        self.assertEqual(self.part((0,) * 39 + (41,)), 40)
        self.assertEqual(Tree((0,) * 39 + (39,)).hung[39], 39)
        self.assertEqual(Tree((40,) + (0,) * 39).hung[0], 40)

    def test_flags_are_no_places(self):
        self.assertEqual(self.part((False,)), 1)
        self.assertEqual(self.part((0, True)), 2)
        self.assertEqual(self.part((0, False, True)), 2)

    def test_a_block_under_itself(self):
        self.assertEqual(self.part((1,)), 1)
        self.assertEqual(self.part((0, 2)), 2)
        self.assertEqual(self.part((0, 0, 3, 4)), 3)

    def test_least_block_of_wrong_items(self):
        self.assertEqual(self.part((0, 2, None)), 2)
        self.assertEqual(self.part((0, None, 3)), 2)
        self.assertEqual(self.part((0, 9, True)), 2)

    def test_rings(self):
        self.assertEqual(self.part((2, 1)), ("ring", 1))
        self.assertEqual(self.part((0, 3, 2)), ("ring", 2))
        self.assertEqual(self.part((2, 3, 1)), ("ring", 1))
        self.assertEqual(self.part((0, 0, 4, 5, 3)), ("ring", 3))
        self.assertEqual(self.part(LONG_BACKWARDS[:-1] + (1,)), ("ring", 1))
        self.assertEqual(self.part((0,) * 38 + (40, 39)), ("ring", 39))

    def test_a_ring_is_told_by_what_leads_to_it(self):
        self.assertEqual(self.part((2, 3, 2)), ("ring", 1))
        self.assertEqual(self.part((0, 4, 4, 3)), ("ring", 2))
        self.assertEqual(self.part((0, 1, 6, 6, 4, 5)), ("ring", 3))

    def test_wrong_items_ahead_of_rings(self):
        self.assertEqual(self.part((2, 1, 3)), 3)
        self.assertEqual(self.part((2, 1, None)), 3)
        self.assertEqual(self.part((2, 1, 0, False)), 4)

    def test_every_tuple_of_three(self):
        for hung in itertools.product(range(-1, 5), repeat=3):
            wrong = [k for k in (1, 2, 3) if hung[k - 1] in (-1, 4, k)]
            if wrong:
                self.assertEqual(self.part(hung), wrong[0])
                continue
            astray = [k for k in (1, 2, 3) if climb(hung, k) is None]
            if astray:
                self.assertEqual(self.part(hung), ("ring", astray[0]))
            else:
                self.assertEqual(Tree(hung).hung, hung)


class CompareTrees(unittest.TestCase):
    def test_equal_just_to_trees_of_the_same(self):
        for one, other in itertools.product(HUNG, repeat=2):
            self.assertIs(Tree(one) == Tree(other), one == other)
            self.assertIs(Tree(one) != Tree(other), one != other)

    def test_equal_to_nothing_of_another_class(self):
        tree = Tree((0, 1))
        for thing in strange_things() + [0, 1, (0, 1), [0, 1], ((0, 1),), "hung"]:
            if not isinstance(thing, Tree):
                self.assertFalse(tree == thing)
                self.assertFalse(thing == tree)
                self.assertTrue(tree != thing)


class AskTrees(unittest.TestCase):
    def test_place_of(self):
        for hung in HUNG:
            for block in range(1, len(hung) + 1):
                self.assertEqual(place_of(Tree(hung), block), hung[block - 1])

    def test_parents(self):
        self.assertEqual(parents(Tree(ROW), 4), (3, 2, 1, 0))
        self.assertEqual(parents(Tree(FLAT), 4), (0,))
        self.assertEqual(parents(Tree(BACKWARDS), 1), (2, 3, 4, 0))
        self.assertEqual(parents(Tree((0,)), 1), (0,))
        self.assertEqual(parents(Tree(LONG), 40), tuple(range(39, -1, -1)))
        for hung in HUNG + SMALL:
            for block in range(1, len(hung) + 1):
                self.assertEqual(parents(Tree(hung), block), tuple(climb(hung, block)))

    def test_under(self):
        self.assertEqual(under(Tree((3, 3, 0, 3, 1, 1)), 3), (1, 2, 4))
        self.assertEqual(under(Tree(ROW), 0), (1,))
        self.assertEqual(under(Tree(ROW), 4), ())
        self.assertEqual(under(Tree(WIDE), 0), tuple(range(1, 41)))
        for hung in HUNG + SMALL:
            for place in range(len(hung) + 1):
                expected = [k for k in range(1, len(hung) + 1) if hung[k - 1] == place]
                self.assertEqual(under(Tree(hung), place), tuple(expected))

    def test_beneath(self):
        self.assertEqual(beneath(Tree((3, 3, 0, 3, 1, 1)), 3), (1, 2, 4, 5, 6))
        self.assertEqual(beneath(Tree(BACKWARDS), 3), (1, 2))
        self.assertEqual(beneath(Tree((0,)), 1), ())
        self.assertEqual(beneath(Tree(LONG), 1), tuple(range(2, 41)))
        for hung in HUNG + SMALL:
            self.assertEqual(beneath(Tree(hung), 0), tuple(range(1, len(hung) + 1)))
            for place in range(len(hung) + 1):
                expected = [k for k in range(1, len(hung) + 1) if place in climb(hung, k)]
                self.assertEqual(beneath(Tree(hung), place), tuple(expected))

    def test_what_is_no_block(self):
        for hung in (ROW, (0,), LONG):
            for thing in not_within(1, len(hung)):
                tree = Tree(hung)
                raised(self, NoBlock, place_of, tree, thing)
                raised(self, NoBlock, parents, tree, thing)
                self.assertEqual(tree.hung, hung)

    def test_what_is_no_place(self):
        for hung in (ROW, (0,), LONG):
            for thing in not_within(0, len(hung)):
                tree = Tree(hung)
                raised(self, NoPlace, under, tree, thing)
                raised(self, NoPlace, beneath, tree, thing)
                self.assertEqual(tree.hung, hung)


class MoveBlocks(unittest.TestCase):
    def test_all_moves(self):
        for hung in HUNG + SMALL:
            tree = Tree(hung)
            blocks = range(1, len(hung) + 1)
            for block, place in itertools.product(blocks, (0, *blocks)):
                if place != 0 and (place == block or block in climb(hung, place)):
                    raised(self, Beneath, moved, tree, block, place)
                    continue
                expected = list(hung)
                expected[block - 1] = place
                self.assertEqual(moved(tree, block, place).hung, tuple(expected))
            self.assertEqual(tree.hung, hung)

    def test_a_few(self):
        tree = Tree(ROW)
        self.assertEqual(moved(tree, 3, 1), Tree((0, 1, 1, 3)))
        self.assertEqual(moved(tree, 4, 0), Tree((0, 1, 2, 0)))
        self.assertEqual(moved(tree, 1, 0), tree)
        self.assertEqual(moved(tree, 4, 3), tree)
        raised(self, Beneath, moved, tree, 1, 1)
        raised(self, Beneath, moved, tree, 1, 4)
        raised(self, Beneath, moved, Tree((0,)), 1, 1)

    def test_wrong_arguments_in_their_order(self):
        tree = Tree(ROW)
        for thing in not_within(1, 4):
            raised(self, NoBlock, moved, tree, thing, 1)
            raised(self, NoBlock, moved, tree, thing, 9)
            raised(self, NoBlock, moved, tree, thing, thing)
        for thing in not_within(0, 4):
            raised(self, NoPlace, moved, tree, 2, thing)
            raised(self, NoBlock, moved, tree, 0, thing)
        self.assertEqual(tree.hung, ROW)


class CallBlocks(unittest.TestCase):
    def check(self, hung, order):
        tree = Tree(hung)
        names = dict(enumerate(order, start=1))
        names[0] = 0
        again = called(tree, order)
        for block in range(1, len(hung) + 1):
            self.assertEqual(again.hung[names[block] - 1], names[hung[block - 1]])
        self.assertEqual(len(again.hung), len(hung))
        self.assertEqual(tree.hung, hung)

    def test_a_few(self):
        self.assertEqual(called(Tree(ROW), (4, 3, 2, 1)), Tree(BACKWARDS))
        self.assertEqual(called(Tree((0, 1, 1)), (2, 3, 1)), Tree((2, 0, 2)))
        self.assertEqual(called(Tree((0, 1, 2)), (2, 3, 1)), Tree((3, 0, 2)))
        self.assertEqual(called(Tree((0,)), (1,)), Tree((0,)))
        self.assertEqual(called(Tree(LONG), tuple(range(40, 0, -1))), Tree(LONG_BACKWARDS))

    def test_all_orders_of_small_trees(self):
        for hung in SMALL:
            for order in itertools.permutations(range(1, len(hung) + 1)):
                self.check(hung, order)

    def test_orders_of_large_trees(self):
        chance = random.Random(1)
        for hung in (LONG, WIDE, HALVES):
            order = list(range(1, 41))
            for _ in range(5):
                chance.shuffle(order)
                self.check(hung, tuple(order))

    def test_as_it_was(self):
        for hung in HUNG:
            self.assertEqual(called(Tree(hung), tuple(range(1, len(hung) + 1))), Tree(hung))

    def test_what_is_no_order(self):
        tree = Tree((0, 1, 2))
        wrong = [(), (1,), (1, 2), (1, 2, 3, 4), (1, 2, 2), (1, 1, 1), (0, 1, 2), (2, 3, 4),
                 (1, 2, 3, 3), (1, 2, 3, 1), (3, 2, 0), (True, 2, 3), (1, 2, None), (1, 2, "3"),
                 [1, 2, 3], "123", b"\x01\x02\x03", {1: 1, 2: 2, 3: 3}, range(1, 4), 1, 123,
                 (1, 2, HUGE), (-1, 2, 3), ((1, 2, 3),), (1, 2, (3,)), (1, 2, Tree((0,))),
                 (1, 2, nested(lambda x: (x,), 3)), (None, 1, "a")]
        for thing in wrong + strange_things():
            raised(self, NoOrder, called, tree, thing)
        self.assertEqual(tree.hung, (0, 1, 2))
        for thing in strange_things() + [(), 1, (2,), (0,), (1, 1), [1]]:
            raised(self, NoOrder, called, Tree((0,)), thing)
        raised(self, NoOrder, called, Tree(LONG), tuple(range(40)))
        raised(self, NoOrder, called, Tree(LONG), tuple(range(1, 42)))


class EqualCalls(unittest.TestCase):
    def test_equal_calls_give_equal_results(self):
        for hung in HUNG:
            one, other = Tree(hung), Tree(tuple(list(hung)))
            last = len(hung)
            order = tuple(range(last, 0, -1))
            for call, args in ((place_of, (last,)), (parents, (last,)), (under, (0,)),
                               (beneath, (0,)), (moved, (last, hung[-1])), (called, (order,))):
                result = call(one, *args)
                self.assertEqual(result, call(one, *args))
                self.assertEqual(result, call(other, *args))
            self.assertEqual((one.hung, other.hung), (hung, hung))


if __name__ == "__main__":
    unittest.main()

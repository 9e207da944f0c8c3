"""[5.3]: the cheapest tree, nests, and trees by wrong words; with [0.3], [0.4] for them."""

import itertools
import random
import time
import unittest

from foldervotes.counts import many_by_wrong
from foldervotes.errors import TooMany
from foldervotes.nests import cheapest, is_nest, nest
from foldervotes.trees import Tree
from foldervotes.words import Words, cost, words_of, wrong_words
from tests.scribble import (SMALL_WORDS, chance_words, right_words, scribbled, wrong_by_trees,
                            wrong_in, wrong_of)
from tests.things import HUGE, chance_tree, lots, not_within, raised, strange_things

W = Words(2, (0, 0), ((True, False), (False, True), (False, False)))


def is_nest_by_words(words, thing):
    """Whether pairs of lots and numbers are a nest, as the document says it."""
    for block in range(1, words.blocks + 1):
        for place in range(words.blocks + 1):
            held = sum(number for lot, number in thing if block in lot and place not in lot)
            if place != block and held > wrong_of(words, block, place):
                return False
    return True


def ring_words(chance, blocks):
    """Words that are all right for ties that make rings alone."""
    order = list(range(1, blocks + 1))
    chance.shuffle(order)
    hung = [0] * blocks
    at = 0
    while at < blocks:
        size = chance.randint(2, 9)
        # A ring has two blocks at least.
        part = order[at:] if blocks - at < size + 2 else order[at:at + size]
        for one, other in zip(part, part[1:] + part[:1]):
            hung[one - 1] = other
        at += len(part)
    return Words(blocks, *right_words(tuple(hung)))


class Cheapest(unittest.TestCase):
    def check(self, words):
        """What can be checked at any number of blocks: a tree and a nest of one worth."""
        found = cheapest(words)
        self.assertIs(type(found), tuple)
        many, tree = found
        self.assertIs(type(tree), Tree)
        self.assertEqual(len(tree.hung), words.blocks)
        self.assertEqual(wrong_in(words, tree.hung), many)
        self.assertEqual(wrong_words(words, tree), many)
        paper = nest(words)
        self.assertEqual(sum(number for _, number in paper), many)
        self.assertTrue(is_nest_by_words(words, paper))
        self.assertIs(is_nest(words, paper), True)
        self.assertIs(type(paper), tuple)
        for pair in paper:
            self.assertEqual((type(pair), type(pair[0]), type(pair[1])), (tuple, tuple, int))
            self.assertEqual(pair[0], tuple(sorted(set(pair[0]))))
            self.assertGreater(pair[1], 0)
        self.assertEqual((cheapest(words), nest(words)), (found, paper))
        return many

    def test_all_words_of_one_and_two_blocks(self):
        for words in SMALL_WORDS:
            self.assertEqual(self.check(words), min(wrong_by_trees(words)))

    def test_against_all_trees(self):
        chance = random.Random(1)
        for blocks, many in ((3, 300), (4, 200), (5, 60)):
            for _ in range(many):
                words = chance_words(chance, blocks, chance.choice((0, 0.1, 0.5)),
                                     chance.random())
                self.assertEqual(self.check(words), min(wrong_by_trees(words)))

    def test_rings_of_small_words(self):
        for blocks in (2, 3, 4, 5):
            for seed in range(6):
                words = ring_words(random.Random(seed), blocks)
                self.assertEqual(self.check(words), min(wrong_by_trees(words)))

    def test_right_words(self):
        chance = random.Random(2)
        for blocks in (1, 2, 3, 7, 40):
            tree = chance_tree(chance, blocks, 4)
            self.assertEqual(cheapest(words_of(tree)), (0, tree))
            self.assertEqual(nest(words_of(tree)), ())

    def test_e06(self):
        self.assertEqual(cheapest(W)[0], 1)
        self.assertEqual(many_by_wrong(W), (0, 1, 1, 0, 0, 1))

    def test_forty_blocks(self):
        chance = random.Random(3)
        for blocks in (6, 11, 23, 39, 40):
            for words in ([chance_words(chance, blocks, lost, listed)
                           for lost in (0, 0.3, 0.9) for listed in (0.02, 0.5, 0.95)]
                          + [scribbled(chance, chance_tree(chance, blocks, width), many)
                             for width in (1, 3, 40) for many in (1, 9, 80, 600)]):
                before = time.monotonic()
                self.check(words)
                self.assertLess(time.monotonic() - before, 10)

    def test_rings_of_forty_blocks(self):
        chance = random.Random(4)
        for blocks in (8, 20, 39, 40):
            for _ in range(3):
                words = ring_words(chance, blocks)
                rings = 0
                left = list(range(1, blocks + 1))
                while left:
                    block = left[0]
                    while block in left:
                        left.remove(block)
                        block = words.ups[block - 1]
                    rings += 1
                # Of each ring one block hangs elsewhere, which costs its own word and
                # two words of lists.
                self.assertEqual(self.check(words), 3 * rings)

    def test_rings_within_rings(self):
        """Rings of two that words, some lost, tie to rings of their own."""
        ups = (2, 1, 4, 3, 6, 5, 8, 7)
        chance = random.Random(5)
        for _ in range(20):
            lists = [[ups[block - 1] == place for block in range(1, 9)] for place in range(9)]
            for one, other in ((1, 3), (3, 2), (5, 7), (7, 6), (2, 8)):
                lists[other][one - 1] = chance.choice((None, True))
            words = Words(8, ups, tuple(map(tuple, lists)))
            self.check(words)

    def test_more_than_one_level_is_paid(self):
        """Among nests are such as have a lot within another."""
        chance = random.Random(6)
        within = 0
        for _ in range(40):
            paper = nest(scribbled(chance, chance_tree(chance, 12, 2), 60))
            chosen = [set(lot) for lot, _ in paper]
            within += any(one < other for one, other in itertools.product(chosen, repeat=2))
        self.assertGreater(within, 0)


class FifthFact(unittest.TestCase):
    def test_no_nest_comes_to_more_than_any_tree(self):
        chance = random.Random(7)
        for _ in range(150):
            words = chance_words(chance, chance.choice((2, 3, 4)), 0.1)
            least = min(wrong_by_trees(words))
            thing = []
            for _ in range(12):
                lot = chance.choice(lots(range(1, words.blocks + 1))[1:])
                more = thing + [(lot, chance.randint(1, 2))]
                if is_nest(words, tuple(more)):
                    thing = more
            self.assertTrue(is_nest_by_words(words, thing))
            self.assertLessEqual(sum(number for _, number in thing), least)


class IsNest(unittest.TestCase):
    def test_against_the_words(self):
        chance = random.Random(8)
        there = {True: 0, False: 0}
        for _ in range(800):
            words = chance_words(chance, chance.choice((1, 2, 3, 4)), 0.1)
            some = lots(range(1, words.blocks + 1))[1:]
            thing = tuple((chance.choice(some), chance.randint(1, 2))
                          for _ in range(chance.randint(0, 4)))
            expected = is_nest_by_words(words, thing)
            self.assertIs(is_nest(words, thing), expected)
            there[expected] += 1
        self.assertGreater(min(there.values()), 100)

    def test_nearly_nests(self):
        chance = random.Random(9)
        for _ in range(60):
            words = scribbled(chance, chance_tree(chance, 6, 2), 20)
            paper = nest(words)
            for at, (lot, number) in enumerate(paper):
                rest = paper[:at] + paper[at + 1:]
                self.assertIs(is_nest(words, rest), True)
                self.assertIs(is_nest(words, rest[::-1] + ((lot, number),)), True)
                for more in ((lot, number + 1), (lot, HUGE)):
                    self.assertIs(is_nest(words, rest + (more,)), False)
                self.assertIs(is_nest(words, paper + ((lot, 1),)), False)
                for wrong in ([lot, number], (lot,), (lot, number, 0), (lot, 0), (lot, -number),
                              (lot, True), (lot, None), (lot, str(number)), (list(lot), number),
                              (lot[::-1] + lot, number), (lot + (0,), number), ((0,) + lot, number),
                              (lot + (7,), number), (lot + (None,), number), ((), number),
                              (number, lot), ((lot,), number), (lot + lot, number)):
                    self.assertIs(is_nest(words, rest + (wrong,)), False, wrong)
            self.assertIs(is_nest(words, list(paper)), False)

    def test_a_lot_twice(self):
        words = Words(2, (None, 0), ((False, False), (False, None), (True, False)))
        self.assertEqual([cost(words, 2, place) for place in (0, 1)], [1, 1])
        self.assertIs(is_nest(words, (((2,), 1),)), True)
        self.assertIs(is_nest(words, (((2,), 1), ((2,), 1))), False)
        # A ring of two: each of them costs three words under the head.
        words = Words(2, (2, 1), ((False, False), (False, True), (True, False)))
        for times in range(1, 6):
            self.assertIs(is_nest(words, (((1, 2), 1),) * times), times <= 3)
            self.assertIs(is_nest(words, (((1, 2), times),)), times <= 3)

    def test_the_empty_nest(self):
        for words in SMALL_WORDS:
            self.assertIs(is_nest(words, ()), True)

    def test_flags_for_any_object(self):
        words = W
        for thing in strange_things() + not_within(0, -1) + [W, Tree((0,)), [], {}, "", b"", 0,
                                                             ((),), ((), ()), (((2,), 1), ())]:
            if thing != ():
                self.assertIs(is_nest(words, thing), False)
            self.assertIs(is_nest(words, (thing,)), False)
            self.assertIs(is_nest(words, ((thing, 1),)), False, thing)
            self.assertIs(is_nest(words, ((thing, thing),)), False)
            self.assertIs(is_nest(words, (((2,), thing),)), False, thing)
        self.assertIs(is_nest(words, (((2,), 1),)), True)

    def test_forty_blocks(self):
        chance = random.Random(10)
        words = chance_words(chance, 40, 0.1, 0.5)
        paper = nest(words)
        self.assertIs(is_nest(words, paper), True)
        lot, number = paper[-1]
        self.assertIs(is_nest(words, paper[:-1] + ((lot, number + 1),)), False)


class ManyByWrong(unittest.TestCase):
    def check(self, words):
        found = many_by_wrong(words)
        wrong = wrong_by_trees(words)
        self.assertEqual(found, tuple(wrong.count(many) for many in range(max(wrong) + 1)))
        self.assertIs(type(found), tuple)

    def test_all_words_of_one_and_two_blocks(self):
        for words in SMALL_WORDS:
            self.check(words)

    def test_against_all_trees(self):
        chance = random.Random(11)
        for blocks, many in ((3, 150), (4, 80), (5, 30)):
            for _ in range(many):
                self.check(chance_words(chance, blocks, chance.choice((0, 0.2, 1)),
                                        chance.random()))
            self.check(words_of(chance_tree(chance, blocks, 2)))
            self.check(ring_words(chance, blocks))

    def test_ten_blocks(self):
        chance = random.Random(12)
        for blocks in (6, 8, 10):
            for lost in (0, 0.3, 1):
                for listed in (0, 0.4, 1):
                    words = chance_words(chance, blocks, lost, listed)
                    before = time.monotonic()
                    found = many_by_wrong(words)
                    self.assertLess(time.monotonic() - before, 10)
                    self.assertEqual(sum(found), (blocks + 1) ** (blocks - 1))
                    self.assertGreater(found[-1], 0)
                    least = cheapest(words)[0]
                    self.assertEqual(found[:least], (0,) * least)
                    self.assertGreater(found[least], 0)

    def test_ten_blocks_of_one_tree(self):
        tree = chance_tree(random.Random(13), 10, 3)
        found = many_by_wrong(words_of(tree))
        # Each block that hangs elsewhere costs three words.
        self.assertEqual(set(found[1::3] + found[2::3]), {0})
        self.assertEqual(found[0], 1)
        self.assertEqual(sum(found), 11 ** 9)
        moves = 0
        for block in range(1, 11):
            for place in range(11):
                hung = tree.hung[:block - 1] + (place,) + tree.hung[block:]
                above = place
                while above not in (0, block):
                    above = tree.hung[above - 1]
                moves += above == 0 and hung != tree.hung
        self.assertEqual(found[3], moves)

    def test_all_words_lost(self):
        words = chance_words(random.Random(0), 10, 1)
        self.assertEqual(many_by_wrong(words), (11 ** 9,))

    def test_too_many(self):
        for blocks in (11, 12, 40):
            words = words_of(Tree((0,) * blocks))
            self.assertEqual(raised(self, TooMany, many_by_wrong, words).most, 10)


if __name__ == "__main__":
    unittest.main()

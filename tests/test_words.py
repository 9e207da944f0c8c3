"""[5.1], [5.2]: words and votes; with [0.3], [0.4] for them."""

import itertools
import random
import unittest

from foldervotes.errors import BadWords, NoBlock, NoPlace, OtherBlocks
from foldervotes.trees import Tree
from foldervotes.words import Words, cost, votes, words_of, wrong_words
from tests.scribble import (SMALL_WORDS, chance_words, right_words, scribbled, wrong_in,
                            wrong_of)
from tests.small import all_trees
from tests.things import HUGE, chance_tree, nested, not_within, raised, strange_things

UPS = (0, 1, None)
LISTS = ((True, False, None), (False, True, False), (True, False, True), (None, False, False))
WORDS = Words(3, UPS, LISTS)
W = Words(2, (0, 0), ((True, False), (False, True), (False, False)))


def with_item(row, at, item):
    return row[:at] + (item,) + row[at + 1:]


class MakeWords(unittest.TestCase):
    def part(self, blocks, ups, lists):
        return raised(self, BadWords, Words, blocks, ups, lists).part

    def listed(self, place, block, item):
        """The lists with another item."""
        return with_item(LISTS, place, with_item(LISTS[place], block - 1, item))

    def test_right_ones_are_kept(self):
        self.assertEqual((WORDS.blocks, WORDS.ups, WORDS.lists), (3, UPS, LISTS))
        for blocks in (1, 2, 40):
            ups = (None,) * blocks
            lists = tuple(tuple(False if place == block else None
                                for block in range(1, blocks + 1)) for place in range(blocks + 1))
            made = Words(blocks, ups, lists)
            self.assertEqual((made.blocks, made.ups, made.lists), (blocks, ups, lists))

    def test_blocks(self):
        for thing in not_within(1, 40):
            self.assertEqual(self.part(thing, UPS, LISTS), "blocks")
            self.assertEqual(self.part(thing, None, None), "blocks")
        blocks = 41
        ups, lists = right_words((0,) * blocks)
        self.assertEqual(self.part(blocks, ups, lists), "blocks")

    def test_ups(self):
        for thing in strange_things() + not_within(0, -1) + [
                (), (0,), (0, 1), (0, 1, 2, 3), [0, 1, 2], "012", {0: 0, 1: 1, 2: 2}]:
            if not (isinstance(thing, tuple) and len(thing) == 3):
                self.assertEqual(self.part(3, thing, LISTS), "ups")
                self.assertEqual(self.part(3, thing, None), "ups")

    def test_the_least_block(self):
        for block in (1, 2, 3):
            for thing in not_within(0, 3) + [block]:
                if thing is not None:
                    self.assertEqual(self.part(3, with_item(UPS, block - 1, thing), LISTS), block)
                    self.assertEqual(self.part(3, with_item(UPS, block - 1, thing), None), block)
            for place in (None, 0, 1, 2, 3):
                if place != block:
                    self.assertEqual(Words(3, with_item(UPS, block - 1, place), LISTS).lists, LISTS)
        self.assertEqual(self.part(3, (0, 2, 3), LISTS), 2)
        self.assertEqual(self.part(3, (1, 2, 3), LISTS), 1)
        self.assertEqual(self.part(3, (2, True, "x"), LISTS), 2)

    def test_lists(self):
        for thing in strange_things() + not_within(0, -1) + [
                LISTS[:3], LISTS + LISTS[:1], (), list(LISTS), dict(enumerate(LISTS))]:
            self.assertEqual(self.part(3, UPS, thing), "lists")
        for many in (1, 2, 3, 5):
            self.assertEqual(self.part(3, UPS, ((False,) * 3,) * many), "lists")
        self.assertEqual(self.part(3, UPS, (None,) * 3), "lists")

    def test_a_place_whose_item_is_no_tuple_of_so_many(self):
        for place in range(4):
            for thing in strange_things() + [(), (True,), (False,) * 2, (False,) * 4,
                                             [False] * 3, "abc", b"abc", 0, 1]:
                if not (isinstance(thing, tuple) and len(thing) == 3):
                    self.assertEqual(self.part(3, UPS, with_item(LISTS, place, thing)), (place,))
        wrong = (LISTS[0], LISTS[1], None, ())
        self.assertEqual(self.part(3, UPS, wrong), (2,))
        # Ahead of a wrong item of an earlier place.
        self.assertEqual(self.part(3, UPS, ((7, 7, 7), LISTS[1], LISTS[2], ())), (3,))

    def test_the_least_pair(self):
        for place in range(4):
            for block in (1, 2, 3):
                for thing in not_within(0, -1) + [0, 1]:
                    if thing is not None and not isinstance(thing, bool):
                        lists = self.listed(place, block, thing)
                        self.assertEqual(self.part(3, UPS, lists), (place, block))
                for thing in (True, False, None):
                    lists = self.listed(place, block, thing)
                    if place == block and thing is not False:
                        self.assertEqual(self.part(3, UPS, lists), (place, block))
                    else:
                        self.assertEqual(Words(3, UPS, lists).lists, lists)
        wrong = (LISTS[0], (False, False, 0), (1, True, None), LISTS[3])
        self.assertEqual(self.part(3, UPS, wrong), (1, 3))
        self.assertEqual(self.part(3, UPS, (LISTS[0], LISTS[1], (1, True, None), (1, 0, 1))),
                         (2, 1))
        self.assertEqual(self.part(3, UPS, with_item(LISTS, 2, (True, True, 1))), (2, 2))

    def test_parts_in_their_order(self):
        self.assertEqual(self.part(True, (), ()), "blocks")
        self.assertEqual(self.part(3, (), ()), "ups")
        self.assertEqual(self.part(3, (0, 0, 3), ()), 3)
        self.assertEqual(self.part(3, UPS, ()), "lists")
        self.assertEqual(self.part(3, UPS, (LISTS[0], (), (0,), LISTS[0])), (1,))
        self.assertEqual(self.part(3, UPS, ((None,) * 3,) * 4), (1, 1))

    def test_deep_things(self):
        deep = nested(lambda inner: (inner, inner, inner), 1, 3)
        self.assertEqual(self.part(3, deep, LISTS), 1)
        self.assertEqual(self.part(3, UPS, (deep,) * 4), (0, 1))

    def test_how_many_there_are(self):
        self.assertEqual(len(SMALL_WORDS), 2 * 3 + 3 * 3 * 3 ** 4)


class CompareWords(unittest.TestCase):
    def test_equal_just_to_words_of_the_same(self):
        made = SMALL_WORDS[::7]
        for (at, one), (other_at, other) in itertools.product(enumerate(made), repeat=2):
            again = Words(other.blocks, other.ups, other.lists)
            self.assertEqual(one == again, at == other_at)
            self.assertEqual(one != again, at != other_at)

    def test_equal_to_nothing_of_another_class(self):
        for thing in strange_things() + [UPS, (3, UPS, LISTS), Tree((0, 1, 2))]:
            self.assertFalse(WORDS == thing)
            self.assertFalse(thing == WORDS)
            self.assertTrue(WORDS != thing)


class WordsOfTrees(unittest.TestCase):
    def test_all_sorts(self):
        chance = random.Random(1)
        trees = [tree for blocks in (1, 2, 3, 4) for tree in all_trees(blocks)]
        trees += [chance_tree(chance, 40, width) for width in (1, 2, 5, 40)]
        for tree in trees:
            words = words_of(tree)
            ups, lists = right_words(tree.hung)
            self.assertIs(type(words), Words)
            self.assertEqual((words.blocks, words.ups, words.lists), (len(ups), ups, lists))
            self.assertEqual({type(item) for line in words.lists for item in line}, {bool})
            self.assertEqual(words, words_of(Tree(tree.hung)))

    def test_a_few(self):
        self.assertEqual(words_of(Tree((0, 1))),
                         Words(2, (0, 1), ((True, False), (False, True), (False, False))))
        self.assertEqual(words_of(Tree((0,))), Words(1, (0,), ((True,), (False,))))


class Costs(unittest.TestCase):
    def some_words(self):
        chance = random.Random(2)
        yield from SMALL_WORDS
        for blocks in (3, 3, 4, 5, 8, 40):
            for lost in (0, 0.3, 0.9, 1):
                yield chance_words(chance, blocks, lost)
            yield scribbled(chance, chance_tree(chance, blocks, 3), blocks)

    def test_cost_word_by_word(self):
        for words in self.some_words():
            for block in range(1, words.blocks + 1):
                for place in range(words.blocks + 1):
                    if place != block:
                        self.assertEqual(cost(words, block, place), wrong_of(words, block, place))

    def test_a_few(self):
        # 2 says 1, and 1 lists it, and so does the head: one word less than right at 1.
        words = Words(2, (None, 1), ((False, True), (False, True), (None, False)))
        self.assertEqual([cost(words, 2, place) for place in (0, 1)], [2, 1])
        self.assertEqual([cost(words, 1, place) for place in (0, 2)], [1, 0])
        self.assertEqual([cost(W, 1, 0), cost(W, 1, 2), cost(W, 2, 0), cost(W, 2, 1)],
                         [0, 3, 2, 1])

    def test_lost_words_are_never_wrong(self):
        words = Words(3, (None,) * 3, tuple(tuple(False if place == block else None
                                                  for block in (1, 2, 3)) for place in range(4)))
        for block, place in itertools.product((1, 2, 3), range(4)):
            if place != block:
                self.assertEqual(cost(words, block, place), 0)
        self.assertEqual(votes(words), [(0, (0, 2, 3)), (0, (0, 1, 3)), (0, (0, 1, 2))])

    def test_wrong_words(self):
        for words in list(self.some_words())[::3]:
            if words.blocks > 4:
                hungs = [chance_tree(random.Random(at), words.blocks, 4).hung for at in range(5)]
            else:
                hungs = [tree.hung for tree in all_trees(words.blocks)]
            for hung in hungs:
                self.assertEqual(wrong_words(words, Tree(hung)), wrong_in(words, hung))
        for tree in all_trees(3):
            self.assertEqual(wrong_words(words_of(tree), tree), 0)

    def test_votes(self):
        for words in self.some_words():
            expected = []
            for block in range(1, words.blocks + 1):
                found = {place: wrong_of(words, block, place)
                         for place in range(words.blocks + 1) if place != block}
                least = min(found.values())
                expected.append((least, tuple(place for place in found if found[place] == least)))
            found = votes(words)
            self.assertEqual(found, expected)
            self.assertIs(type(found), list)
            for pair in found:
                self.assertEqual((type(pair), type(pair[1])), (tuple, tuple))

    def test_votes_of_right_words(self):
        for tree in all_trees(4):
            self.assertEqual(votes(words_of(tree)), [(0, (place,)) for place in tree.hung])

    def test_e06(self):
        self.assertEqual(votes(W), [(0, (0,)), (1, (1,))])

    def test_no_block(self):
        for thing in not_within(1, 3):
            raised(self, NoBlock, cost, WORDS, thing, 0)
            raised(self, NoBlock, cost, WORDS, thing, 9)
            raised(self, NoBlock, cost, WORDS, thing, thing)

    def test_no_place(self):
        for thing in not_within(0, 3) + [2]:
            raised(self, NoPlace, cost, WORDS, 2, thing)
        for words in (WORDS, W, words_of(Tree((0,) * 40))):
            for block in range(1, words.blocks + 1):
                raised(self, NoPlace, cost, words, block, block)
                raised(self, NoPlace, cost, words, block, words.blocks + 1)
                raised(self, NoPlace, cost, words, block, HUGE)

    def test_other_blocks(self):
        for thing in strange_things() + not_within(0, -1) + [
                Tree((0, 0)), Tree((0,) * 4), (0, 1, 2), WORDS, Tree(tuple(range(40)))]:
            if not (isinstance(thing, Tree) and len(thing.hung) == 3):
                raised(self, OtherBlocks, wrong_words, WORDS, thing)

    def test_new_each_time(self):
        first = votes(W)
        first.append(1)
        first[0] = None
        self.assertEqual(votes(W), [(0, (0,)), (1, (1,))])


if __name__ == "__main__":
    unittest.main()

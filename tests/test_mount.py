"""[8.1], [8.2]: mounting and salvaging; with [0.4] for them."""

import itertools
import random
import time
import unittest

from foldervotes.disk import Disk
from foldervotes.errors import NameTwice, RingTold
from foldervotes.mount import mounted, salvaged
from foldervotes.nests import cheapest
from foldervotes.trees import Tree
from foldervotes.words import wrong_words
from tests.plain_disk import (LOST, disk_of, plain_mounted, plain_names, scribble_on, state_of,
                              twice_of, words_on, words_told)
from tests.small import all_trees
from tests.things import chance_tree

LETTERS = "abcdefghijklmnopqrstuvwxyz"
# All names of one or two letters, by length, then as texts.
FIRST_NAMES = list(LETTERS) + ["".join(pair) for pair in itertools.product(LETTERS, repeat=2)]


def triple(disk):
    """What is mounted, or the error: its name and what it has."""
    try:
        tree, names, bodies = mounted(disk)
    except RingTold as error:
        return "RingTold", error.blocks
    except NameTwice as error:
        return "NameTwice", error.place, error.name
    return tree.hung, names, bodies


def chance_disk(chance, blocks, width=3):
    """A disk whose words are those of a tree, unlike names and some bodies."""
    hung = (0, *chance_tree(chance, blocks, width).hung[1:])
    if not all(climbs(hung, block) for block in range(1, blocks + 1)):
        hung = (0,) * blocks
    names = ["" if at == 0 or place == 1 else chance.choice(FIRST_NAMES[:40]) + LETTERS[at % 26]
             + LETTERS[at // 26] for at, place in enumerate(hung)]
    bodies = [None] + [None if block in hung else chance.choice([None, "", "text"])
                       for block in range(2, blocks + 1)]
    return disk_of(blocks, words_told(hung, names, bodies)), (hung, tuple(names), tuple(bodies))


def climbs(hung, block):
    for _ in range(len(hung)):
        block = block and hung[block - 1]
    return block == 0


class Mounted(unittest.TestCase):
    def check(self, disk):
        before = state_of(disk)
        found = plain_mounted(words_on(disk), disk.size())
        self.assertEqual(triple(disk), found)
        self.assertEqual(triple(disk), found)
        self.assertEqual(state_of(disk), before)
        return found

    def test_right_words(self):
        chance = random.Random(1)
        for blocks in (2, 3, 5, 12, 40):
            for _ in range(5):
                disk, told = chance_disk(chance, blocks)
                self.assertEqual(triple(disk), told)
                self.check(disk)
        for blocks in (2, 3, 40):
            rest = blocks - 1
            self.assertEqual(triple(Disk(blocks)),
                             ((0,) + (1,) * rest, ("",) * blocks, (None,) * blocks))

    def test_a_triple(self):
        found = mounted(Disk(3))
        self.assertIsInstance(found, tuple)
        self.assertIsInstance(found[0], Tree)
        self.assertEqual([type(part) for part in found[1:]], [tuple, tuple])

    def test_words_lost_and_spoilt(self):
        seen = set()
        for seed in range(500):
            chance = random.Random(seed)
            blocks = chance.choice([2, 3, 3, 4, 4, 5, 8, 12])
            disk, _ = chance_disk(chance, blocks)
            scribble_on(chance, disk, chance.choice([0, 1, 2, 4, 8, 20, 60]),
                        chance.choice([0, 0.5, 1]))
            if seed % 3 == 0:
                for key in chance.sample(disk.all_keys(), 3):
                    disk.write(key, (0, "waits") if key[0] == "up" else "waits")
            found = self.check(disk)
            seen.add(found[0] if isinstance(found[0], str) else "tree")
        self.assertEqual(seen, {"tree", "RingTold", "NameTwice"})

    def test_all_words_of_a_kind_lost(self):
        chance = random.Random(2)
        for blocks in (2, 4, 9, 40):
            for kind in ("up", "lists", "body", ""):
                disk, told = chance_disk(chance, blocks)
                for key in disk.all_keys():
                    if kind in ("", key[0]):
                        disk.lose(key)
                found = self.check(disk)
                if kind == "up":
                    self.assertEqual(found, told)
                if kind == "body":
                    self.assertEqual(found, (*told[:2], (None,) + (LOST,) * (blocks - 1)))
                if kind == "lists":
                    self.assertEqual(found, told)
                if kind == "" and blocks > 2:
                    # Each block hangs at the head, without a name.
                    self.assertEqual(found, ("NameTwice", 0, ""))
        disk = Disk(2)
        for key in disk.all_keys():
            disk.lose(key)
        self.assertEqual(triple(disk), ((0, 0), ("", ""), (None, LOST)))

    def test_whatever_waits_makes_no_difference(self):
        chance = random.Random(3)
        for _ in range(60):
            disk, told = chance_disk(chance, 6)
            for _ in range(20):
                key = chance.choice(disk.all_keys())
                disk.write(key, (0, "x") if key[0] == "up" else chance.choice([None, "x"]))
            self.assertEqual(triple(disk), told)


class OneBlock(unittest.TestCase):
    """Votes and names of block 2, of which single words are another thing."""

    def found(self, blocks, up, lists, body=None):
        """Place, name and body of block 2; lists has the places that list it, all others None."""
        disk = Disk(blocks)
        for place in range(blocks + 1):
            if place != 2:
                worth = lists.get(place)
                if worth == LOST:
                    disk.lose(("lists", place, 2))
                else:
                    disk.spoil(("lists", place, 2), worth)
        if up == LOST:
            disk.lose(("up", 2))
        else:
            disk.spoil(("up", 2), up)
        if body == LOST:
            disk.lose(("body", 2))
        else:
            disk.spoil(("body", 2), body)
        self.assertEqual(triple(disk), plain_mounted(words_on(disk), blocks))
        tree, names, bodies = mounted(disk)
        return tree.hung[1], names[1], bodies[1]

    def test_own_word_and_list(self):
        self.assertEqual(self.found(4, (0, "x"), {0: "x"}, "t"), (0, "x", "t"))
        self.assertEqual(self.found(4, (0, "x"), {0: "y"}), (0, "x", None))
        self.assertEqual(self.found(4, (0, ""), {0: "y"}), (0, "", None))
        self.assertEqual(self.found(4, (0, "x"), {}), (0, "x", None))
        self.assertEqual(self.found(4, (0, "x"), {0: LOST}, LOST), (0, "x", LOST))
        self.assertEqual(self.found(4, (3, "x"), {0: "y", 3: "z"}), (3, "x", None))

    def test_names_by_the_list(self):
        self.assertEqual(self.found(4, LOST, {0: "y"}), (0, "y", None))
        self.assertEqual(self.found(4, LOST, {3: ""}), (3, "", None))
        self.assertEqual(self.found(4, LOST, {3: "y", 4: "z"}), (3, "y", None))
        # Its own word is alone against a list, but one vote more is wrong at its place.
        self.assertEqual(self.found(4, (3, "x"), {0: "y"}), (0, "y", None))

    def test_no_name(self):
        self.assertEqual(self.found(4, LOST, {}), (0, "", None))
        self.assertEqual(self.found(4, LOST, {0: LOST, 3: LOST}), (0, "", None))

    def test_several_places_of_a_vote(self):
        # Each of 3 and 4 is wrong in two words, the own one is at 4.
        self.assertEqual(self.found(4, (4, "x"), {3: "y", 4: "z"}), (4, "x", None))
        # At 3 and 4 as many words are wrong, and the own one is at none of them.
        self.assertEqual(self.found(5, (0, "x"), {3: "y", 4: "z"}), (3, "y", None))
        self.assertEqual(self.found(5, LOST, {3: LOST, 4: LOST}), (3, "", None))
        self.assertEqual(self.found(5, (4, "x"), {0: "y", 4: LOST, 5: LOST}), (4, "x", None))
        self.assertEqual(self.found(5, (1, "x"), {0: LOST, 4: "y", 5: "z"}), (4, "y", None))

    def test_under_block_1_there_are_no_names(self):
        self.assertEqual(self.found(4, (1, "x"), {1: "y"}, "text"), (1, "", "text"))
        self.assertEqual(self.found(4, LOST, {1: "y"}, LOST), (1, "", LOST))

    def test_two_blocks_beside_block_1(self):
        disk = Disk(3)
        disk.spoil(("up", 2), (0, ""))
        disk.spoil(("lists", 0, 2), "")
        disk.spoil(("lists", 1, 2), None)
        # Block 1 has no name either, but it isn't counted.
        self.assertEqual(triple(disk), ((0, 0, 1), ("", "", ""), (None, None, None)))

    def test_two_beneath_block_1(self):
        told = (0, 1, 2, 2), ("", "", "x", "y"), (None, "t", LOST, None)
        self.assertEqual(triple(disk_of(4, words_told(*told))), told)
        told = (0, 1, 2, 2), ("", "", "x", "x"), (None, None, None, None)
        self.assertEqual(triple(disk_of(4, words_told(*told))), ("NameTwice", 2, "x"))
        told = (0, 1, 1, 1), ("", "", "", ""), (None, None, None, None)
        self.assertEqual(triple(disk_of(4, words_told(*told))), told)


class Errors(unittest.TestCase):
    def of(self, hung, names):
        bodies = (None,) * len(hung)
        return triple(disk_of(len(hung), words_told(hung, names, bodies)))

    def test_the_ring_that_has_the_least_block(self):
        names = ("", *"bcdefg")
        self.assertEqual(self.of((0, 3, 2, 1, 1, 1, 1), names), ("RingTold", (2, 3)))
        self.assertEqual(self.of((0, 7, 5, 6, 3, 4, 2), names), ("RingTold", (2, 7)))
        self.assertEqual(self.of((0, 3, 4, 3, 2, 7, 6), names), ("RingTold", (3, 4)))
        self.assertEqual(self.of((0, 4, 2, 3, 2, 7, 6), names), ("RingTold", (2, 3, 4)))
        self.assertEqual(self.of((0, 0, 2, 6, 4, 5, 4), names), ("RingTold", (4, 5, 6)))

    def test_a_ring_ahead_of_names(self):
        self.assertEqual(self.of((0, 0, 0, 5, 4), ("", "x", "x", "y", "z")), ("RingTold", (4, 5)))

    def test_the_least_pair(self):
        self.assertEqual(self.of((0, 0, 0, 2, 2, 0, 0), ("", "z", "z", "a", "a", "y", "y")),
                         ("NameTwice", 0, "y"))
        self.assertEqual(self.of((0, 0, 0, 3, 3, 2, 2), ("", "p", "q", "a", "a", "b", "b")),
                         ("NameTwice", 2, "b"))
        self.assertEqual(self.of((0, 0, 2, 2, 2, 2), ("", "p", "b", "b", "aa", "aa")),
                         ("NameTwice", 2, "aa"))
        self.assertEqual(self.of((0, 0, 0, 0, 0), ("", "", "x", "x", "")), ("NameTwice", 0, ""))
        self.assertEqual(self.of((0, 0, 0, 1, 1), ("", "", "x", "x", "x"))[0], (0, 0, 0, 1, 1))

    def test_one_name_under_unlike_places(self):
        told = (0, 0, 2, 3, 4), ("", "x", "x", "x", "x"), (None,) * 5
        self.assertEqual(triple(disk_of(5, words_told(*told))), told)


def plain_salvage(words, hung, blocks):
    """Names and bodies that are told of a tree, with what is given to blocks without."""
    names = list(plain_names(words, hung))
    for place in range(blocks + 1):
        beside = [block for block in range(2, blocks + 1) if hung[block - 1] == place]
        had = [names[block - 1] for block in beside]
        if place != 1:
            used = set(had) - {""}
            for at, block in enumerate(beside):
                if had[at] == "" or had[at] in had[:at]:
                    names[block - 1] = [name for name in FIRST_NAMES if name not in used][0]
                    used.add(names[block - 1])
    bodies = [None]
    for block in range(2, blocks + 1):
        body = words["body", block]
        if block in hung:
            body = None
        bodies.append("" if body == LOST else body)
    return tuple(names), tuple(bodies)


class Salvaged(unittest.TestCase):
    def check(self, disk):
        blocks, words = disk.size(), words_on(disk)
        before = state_of(disk)
        tree, names, bodies = salvaged(disk)
        self.assertIsInstance(tree, Tree)
        self.assertEqual(len(tree.hung), blocks)
        self.assertEqual(tree.hung[0], 0)
        self.assertEqual(wrong_words(disk.words(), tree), cheapest(disk.words())[0])
        if blocks <= 5:
            least = min(wrong_words(disk.words(), other) for other in all_trees(blocks))
            self.assertEqual(wrong_words(disk.words(), tree), least)
        self.assertEqual((names, bodies), plain_salvage(words, tree.hung, blocks))
        self.assertEqual(twice_of(tree.hung, names), [])
        new = disk_of(blocks, words_told(tree.hung, names, bodies))
        self.assertEqual(triple(new), (tree.hung, names, bodies))
        self.assertEqual(salvaged(new), (tree, names, bodies))
        self.assertEqual(salvaged(disk), (tree, names, bodies))
        self.assertEqual(state_of(disk), before)
        return tree.hung, names, bodies

    def test_right_words_stay(self):
        chance = random.Random(1)
        for blocks in (2, 3, 5, 40):
            disk, told = chance_disk(chance, blocks)
            self.assertEqual(self.check(disk), told)

    def test_words_lost_and_spoilt(self):
        for seed in range(150):
            chance = random.Random(seed)
            blocks = chance.choice([2, 3, 4, 5, 5, 9, 14])
            disk, _ = chance_disk(chance, blocks)
            scribble_on(chance, disk, chance.choice([1, 3, 10, 40, 150]),
                        chance.choice([0, 0.5, 1]))
            if seed % 3 == 0:
                disk.write(("up", 2), (0, "waits"))
                disk.write(("body", 2), "waits")
            self.check(disk)

    def test_forty_blocks_in_a_moment(self):
        chance = random.Random(3)
        begun = time.monotonic()
        for kind in ("up", "lists", "body", ""):
            disk, told = chance_disk(chance, 40, 1)
            for key in disk.all_keys():
                if kind in ("", key[0]):
                    disk.lose(key)
            found = self.check(disk)
            if kind in ("up", "lists"):
                self.assertEqual(found, told)
        for many in (40, 400, 4000):
            disk, _ = chance_disk(chance, 40, 3)
            scribble_on(chance, disk, many, 0.2)
            self.check(disk)
        self.assertLess(time.monotonic() - begun, 20)

    def test_a_ring_of_forty_blocks(self):
        hung = (0, 40, *range(2, 40))
        disk = disk_of(40, words_told(hung, ("", *FIRST_NAMES[:39]), (None,) * 40))
        found = self.check(disk)
        self.assertEqual(sum(one != other for one, other in zip(found[0], hung)), 1)

    def of(self, hung, names, bodies=None):
        bodies = bodies or (None,) * len(hung)
        return self.check(disk_of(len(hung), words_told(hung, names, bodies)))

    def test_the_least_keeps_a_name(self):
        self.assertEqual(self.of((0, 0, 0, 0), ("", "x", "x", "x"))[1], ("", "x", "a", "b"))
        self.assertEqual(self.of((0, 0, 0, 0), ("", "a", "a", "b"))[1], ("", "a", "c", "b"))
        self.assertEqual(self.of((0, 0, 0, 0), ("", "", "", "a"))[1], ("", "b", "c", "a"))
        self.assertEqual(self.of((0, 0, 0, 0, 0), ("", "c", "a", "c", "a"))[1],
                         ("", "c", "a", "b", "d"))
        self.assertEqual(self.of((0, 0, 0, 2, 2), ("", "c", "", "c", ""))[1],
                         ("", "c", "a", "c", "a"))
        self.assertEqual(self.of((0, 4, 4, 0), ("", "x", "x", "x"))[1], ("", "x", "a", "x"))

    def test_no_name_for_one_block(self):
        self.assertEqual(self.of((0, 0, 1), ("", "", ""))[1], ("", "a", ""))
        self.assertEqual(self.of((0, 1, 2), ("", "", ""))[1], ("", "", "a"))

    def test_under_block_1_no_names_are_given(self):
        self.assertEqual(self.of((0, 1, 1, 1), ("", "", "", ""))[1], ("", "", "", ""))
        self.assertEqual(self.of((0, 1, 1, 2, 2), ("", "x", "x", "y", "y"))[1],
                         ("", "", "", "y", "a"))

    def test_beyond_z(self):
        names = ("", *["b"] * 39)
        found = self.of((0,) * 40, names)[1]
        free = [name for name in FIRST_NAMES if name != "b"]
        self.assertEqual(found, ("", "b", *free[:38]))
        self.assertEqual(found[26:30], ("z", "aa", "ab", "ac"))
        found = self.of((0,) * 40, ("", *LETTERS, *["ab"] * 13))[1]
        self.assertEqual(found[26:32], ("z", "ab", "aa", "ac", "ad", "ae"))

    def test_bodies(self):
        bodies = (None, LOST, "text", LOST, "text", None)
        found = self.of((0, 0, 0, 2, 3, 1), ("", "p", "q", "r", "s", ""), bodies)
        self.assertEqual(found[2], (None, None, None, "", "text", None))
        found = self.of((0, 1, 1, 2), ("", "", "", "r"), (None, "text", LOST, LOST))
        self.assertEqual(found[2], (None, None, "", ""))


if __name__ == "__main__":
    unittest.main()

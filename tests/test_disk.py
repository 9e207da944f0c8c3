"""[7.1], [7.2]: disks; with [0.3], [0.4] for them."""

import random
import unittest

from foldervotes.disk import Disk
from foldervotes.errors import NoNumber, NothingWaits, NoWord, NoWorth
from foldervotes.trees import Tree
from foldervotes.words import Words, votes
from tests.plain_disk import (LOST, PlainDisk, check_same, keys_of, scribble_on, state_of,
                              words_on)
from tests.things import HUGE, nested, not_within, refused, strange_things

NAMES = ["", "a", "z", "abcdefgh", "zzzzzzzz"]
NOT_NAMES = ["A", "aB", "abcdefghi", "a b", " ", "a ", "1", "a1", "a-b", "~", "/", "a\n", "\n",
             "a" * 4000]
TEXTS = ["", " ", "a", "hello world", "  two  ", "a" * 40, " " * 40]
NOT_TEXTS = ["a" * 41, " " * 41, "A", "a1", "a.b", "a\n", "\n", "~", "hi!", "b" * 10 ** 5]


def not_keys(blocks):
    """What is no key of a disk."""
    beyond = [blocks + 1, HUGE, -HUGE, 0, 1, -1, True, False, None, "2", (2,), [2]]
    wrong = [(word, block) for word in ("up", "body") for block in beyond]
    wrong += [("lists", place, 2) for place in
              [2, -1, blocks + 1, HUGE, True, False, None, "0", (0,), [0]]]
    wrong += [("lists", 0, block) for block in beyond]
    wrong += [("lists", 1, 1), ("lists", block := blocks, block), ("lists", 2), ("up", 0, 2),
              ("body", 1, 2), ("up",), ("body",), ("lists",), (), ("up", 2, 0), ("up", 2, 2),
              ("lists", 0, 2, 0), ("lists", 0, 2, 2), ["up", 2], ["lists", 0, 2], "up", "body",
              ("UP", 2), ("list", 0, 2), ("", 2), (b"up", 2), (2, "up"), (None, 2), (True, 2),
              (("up",), 2), (["up"], 2), {"up": 2}, ("lists", (0, 2)), (("up", 2),), ("up ", 2),
              ("lost",), ("head", 2), (Tree((0,)), 2), ("up", Tree((0,)))]
    deep = [nested(lambda x: ("up", x), 2), nested(lambda x: (x, 2), "up", 39),
            nested(lambda x: ("lists", x, 2), 0)]
    return strange_things() + [0, 1, 2, HUGE] + wrong + deep


def not_ups(blocks):
    """What can't be the worth of the up word of block 2."""
    wrong = [(2, "a"), (2, ""), (-1, "a"), (blocks + 1, "a"), (HUGE, "a"), (True, "a"),
             (False, "a"), (None, "a"), ("0", "a"), ((0,), "a"), [0, "a"], (0,), (0, "a", "b"),
             ("a", 0), (0, None), (0, 0), (0, b"a"), (0, ("a",)), (0, ["a"]), "0a", {0: "a"}, (),
             None, "", "a", LOST, (0, Tree((0,)))]
    return wrong + [(0, name) for name in NOT_NAMES] + strange_things()


class MakeDisk(unittest.TestCase):
    def test_numbers(self):
        for blocks in (2, 3, 7, 40):
            check_same(self, Disk(blocks), PlainDisk(blocks))
        for thing in not_within(2, 40) + [0, 1, -2, 41, 80]:
            refused(self, None, NoNumber, Disk, thing)

    def test_keys(self):
        self.assertEqual(Disk(2).all_keys(),
                         [("body", 2), ("lists", 0, 2), ("lists", 1, 2), ("up", 2)])
        self.assertEqual(Disk(3).all_keys(), [
            ("body", 2), ("body", 3), ("lists", 0, 2), ("lists", 0, 3), ("lists", 1, 2),
            ("lists", 1, 3), ("lists", 2, 3), ("lists", 3, 2), ("up", 2), ("up", 3)])
        self.assertEqual(len(Disk(40).all_keys()), 39 + 39 + 39 * 40)
        for blocks in (2, 5, 40):
            self.assertEqual(Disk(blocks).all_keys(), keys_of(blocks))
            self.assertEqual(Disk(blocks).all_keys(), sorted(Disk(blocks).all_keys()))

    def test_a_new_disk_word_by_word(self):
        disk = Disk(4)
        for block in (2, 3, 4):
            self.assertEqual(disk.word(("up", block)), (1, ""))
            self.assertEqual(disk.word(("body", block)), None)
            for place in (0, 1, 2, 3, 4):
                if place != block:
                    worth = "" if place == 1 else None
                    self.assertEqual(disk.word(("lists", place, block)), worth)
                    self.assertEqual(disk.seen(("lists", place, block)), worth)
        self.assertEqual((disk.waiting(), disk.calm(), disk.cut()), ([], 0, 0))


class Rows(unittest.TestCase):
    """Long rows of calls, beside a plain row of what waits."""

    def chance_worth(self, chance, disk, key):
        if key[0] == "up":
            places = [place for place in range(disk.size() + 1) if place != key[1]]
            return chance.choice(places), chance.choice(NAMES)
        return chance.choice([None, *(NAMES if key[0] == "lists" else TEXTS)])

    def test_rows(self):
        for seed in range(12):
            chance = random.Random(seed)
            disk = Disk([2, 3, 4, 6][seed % 4])
            plain = PlainDisk(disk.size())
            hot = chance.sample(disk.all_keys(), 4)
            for at in range(400):
                self.do_one(chance, disk, plain, hot)
                if at % 8 == 0:
                    check_same(self, disk, plain)
            check_same(self, disk, plain)

    def do_one(self, chance, disk, plain, hot):
        key = chance.choice(hot if chance.random() < 0.7 else disk.all_keys())
        way = chance.random()
        if way < 0.55:
            worth = self.chance_worth(chance, disk, key)
            self.assertIsNone(disk.write(key, worth))
            plain.write(key, worth)
        elif way < 0.85:
            if key in dict(plain.waiting()):
                self.assertIsNone(disk.reach(key))
                plain.reach(key)
            else:
                refused(self, disk, NothingWaits, disk.reach, key)
        elif way < 0.9:
            self.assertIsNone(disk.lose(key))
            plain.words[key] = LOST
        elif way < 0.96:
            worth = self.chance_worth(chance, disk, key)
            self.assertIsNone(disk.spoil(key, worth))
            plain.words[key] = worth
        elif way < 0.98:
            self.assertEqual(disk.calm(), plain.calm())
        else:
            self.assertEqual(disk.cut(), plain.cut())

    def test_worths_of_one_word_come_in_their_order(self):
        disk = Disk(3)
        key, other = ("body", 2), ("up", 3)
        for worth in ("one", "two", None, "three"):
            disk.write(key, worth)
        disk.write(other, (2, "x"))
        self.assertEqual(disk.waiting(), [(key, 4), (other, 1)])
        self.assertEqual((disk.seen(key), disk.word(key)), ("three", None))
        disk.reach(key)
        self.assertEqual((disk.word(key), disk.seen(key)), ("one", "three"))
        disk.reach(other)
        self.assertEqual((disk.word(other), disk.waiting()), ((2, "x"), [(key, 3)]))
        disk.reach(key)
        disk.reach(key)
        self.assertEqual((disk.word(key), disk.seen(key)), (None, "three"))
        self.assertEqual(disk.cut(), 1)
        self.assertEqual((disk.word(key), disk.seen(key)), (None, None))
        refused(self, disk, NothingWaits, disk.reach, key)

    def test_calm_and_cut_tell_how_much(self):
        disk = Disk(2)
        for worth in ("a", "b", "c"):
            disk.write(("body", 2), worth)
        disk.write(("up", 2), (0, "x"))
        other = disk.copy()
        self.assertEqual((disk.calm(), disk.calm(), disk.cut()), (4, 0, 0))
        self.assertEqual((disk.word(("body", 2)), disk.word(("up", 2))), ("c", (0, "x")))
        self.assertEqual((other.cut(), other.cut(), other.calm()), (4, 0, 0))
        self.assertEqual((other.word(("body", 2)), other.word(("up", 2))), (None, (1, "")))

    def test_what_is_lost_and_spoilt_is_on_the_disk_alone(self):
        disk = Disk(2)
        key = ("lists", 0, 2)
        disk.write(key, "a")
        disk.lose(key)
        self.assertEqual((disk.word(key), disk.seen(key)), (LOST, "a"))
        disk.spoil(key, "b")
        self.assertEqual((disk.word(key), disk.seen(key)), ("b", "a"))
        self.assertEqual(disk.waiting(), [(key, 1)])
        disk.cut()
        self.assertEqual(disk.seen(key), "b")
        disk.lose(key)
        self.assertEqual(disk.seen(key), LOST)
        # A worth may be written that is there already.
        disk.spoil(key, "b")
        disk.spoil(key, "b")
        disk.write(key, "b")
        self.assertEqual(disk.waiting(), [(key, 1)])


class WrongArguments(unittest.TestCase):
    def led(self):
        disk = Disk(4)
        disk.write(("up", 2), (0, "a"))
        disk.write(("body", 3), "text")
        disk.lose(("body", 4))
        return disk

    def test_no_word(self):
        for blocks in (4, 40):
            disk = Disk(blocks)
            disk.write(("up", 2), (0, "a"))
            for key in not_keys(blocks):
                for call in (disk.reach, disk.word, disk.seen, disk.lose):
                    refused(self, disk if blocks == 4 else None, NoWord, call, key)
                for worth in ((0, "a"), None, "a", (0, "A"), LOST, [1]):
                    for call in (disk.write, disk.spoil):
                        refused(self, disk if blocks == 4 else None, NoWord, call, key, worth)

    def test_all_keys_are_words(self):
        disk = Disk(3)
        for key in disk.all_keys():
            self.assertEqual(disk.word(key), disk.seen(key))
            refused(self, disk, NothingWaits, disk.reach, key)

    def test_ups(self):
        disk = self.led()
        for worth in not_ups(4):
            for call in (disk.write, disk.spoil):
                refused(self, disk, NoWorth, call, ("up", 2), worth)
        for place in (0, 1, 3, 4):
            for name in NAMES:
                disk.write(("up", 2), (place, name))
                self.assertEqual(disk.seen(("up", 2)), (place, name))

    def test_lists(self):
        disk = self.led()
        wrong = NOT_NAMES + [0, 1, HUGE, (0, "a"), ("a",), LOST, [None], b"a"]
        wrong += [thing for thing in strange_things() if thing is not None
                  and (not isinstance(thing, str) or thing not in ("", "head"))]
        for worth in wrong:
            for call in (disk.write, disk.spoil):
                refused(self, disk, NoWorth, call, ("lists", 0, 2), worth)
        for worth in [None, *NAMES]:
            disk.spoil(("lists", 1, 2), worth)
            self.assertEqual(disk.word(("lists", 1, 2)), worth)

    def test_bodies(self):
        disk = self.led()
        wrong = NOT_TEXTS + [0, 1, HUGE, ("a",), LOST, [None], b"a", (0, "a")]
        wrong += [thing for thing in strange_things() if thing is not None
                  and (not isinstance(thing, str) or thing not in ("", "head"))]
        for worth in wrong:
            for call in (disk.write, disk.spoil):
                refused(self, disk, NoWorth, call, ("body", 2), worth)
        for worth in [None, *TEXTS]:
            disk.spoil(("body", 2), worth)
            self.assertEqual(disk.word(("body", 2)), worth)


class WordsOfADisk(unittest.TestCase):
    def expected(self, disk):
        blocks, words = disk.size(), words_on(disk)
        ups, lists = [0], []
        for block in range(2, blocks + 1):
            up = words["up", block]
            ups.append(None if up == LOST else up[0])
        for place in range(blocks + 1):
            row = [place == 0]
            for block in range(2, blocks + 1):
                listed = words.get(("lists", place, block))
                row.append(None if listed == LOST else listed is not None)
            lists.append(tuple(row))
        return Words(blocks, tuple(ups), tuple(lists))

    def test_new(self):
        for blocks in (2, 5, 40):
            words = Disk(blocks).words()
            self.assertEqual(words, self.expected(Disk(blocks)))
            self.assertEqual(words.ups, (0,) + (1,) * (blocks - 1))
            self.assertEqual([places for _, places in votes(words)],
                             [(0,)] + [(1,)] * (blocks - 1))

    def test_scribbled(self):
        chance = random.Random(1)
        for blocks in (2, 3, 5, 40):
            for _ in range(10):
                disk = Disk(blocks)
                scribble_on(chance, disk, chance.randint(1, 3 * blocks))
                disk.write(("up", 2), (0, "a"))
                disk.write(("lists", 0, 2), "a")
                self.assertEqual(disk.words(), self.expected(disk))
                self.assertEqual(disk.words().lists[1][0], False)

    def test_a_name_of_no_letters_is_a_name(self):
        disk = Disk(2)
        disk.spoil(("lists", 0, 2), "")
        disk.spoil(("lists", 1, 2), None)
        self.assertEqual(disk.words(), Words(2, (0, 1), ((True, True), (False, False),
                                                         (False, False))))


class Apart(unittest.TestCase):
    def test_lists_are_new(self):
        disk = Disk(3)
        disk.write(("up", 2), (0, "a"))
        for call in (disk.all_keys, disk.waiting):
            first = call()
            kept = list(first)
            first.append(1)
            first.reverse()
            self.assertEqual(call(), kept)

    def test_a_copy_goes_on_apart(self):
        disk = Disk(3)
        disk.write(("body", 2), "one")
        disk.write(("body", 2), "two")
        disk.lose(("up", 3))
        other = disk.copy()
        self.assertIsInstance(other, Disk)
        self.assertEqual(state_of(other), state_of(disk))
        before = state_of(disk)
        other.reach(("body", 2))
        other.write(("body", 2), "three")
        other.write(("up", 2), (0, "x"))
        other.spoil(("up", 3), (0, "y"))
        self.assertEqual(state_of(disk), before)
        after = state_of(other)
        disk.calm()
        disk.lose(("body", 2))
        self.assertEqual(state_of(other), after)

    def test_equal_calls(self):
        one, other = Disk(3), Disk(3)
        for disk in (one, other):
            disk.write(("up", 2), (0, "a"))
            disk.lose(("body", 3))
        self.assertEqual(state_of(one), state_of(other))
        self.assertEqual(one.words(), other.words())
        for thing in strange_things():
            self.assertFalse(one == thing and thing is not one)


if __name__ == "__main__":
    unittest.main()

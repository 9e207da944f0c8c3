"""[10.1]: checkers; with [0.3], [0.4] for them."""

import random
import unittest

from foldervotes.checker import Checker
from foldervotes.disk import Disk
from foldervotes.store import Store
from tests.plain_disk import (LOST, PlainDisk, check_same, keys_of, scribble_on, state_of,
                              words_on, words_told)
from tests.plain_store import PlainStore, books_of
from tests.test_store import small_store
from tests.test_store_calms import chance_deed


class PlainChecker:
    """What a checker does, by the document's words, beside a plain store."""

    def __init__(self, store):
        self.store, self.at = store, 0
        self.keys = keys_of(store.disk.blocks)

    def step(self):
        key, disk = self.keys[self.at], self.store.disk
        self.at = (self.at + 1) % len(self.keys)
        worth = words_told(self.store.hung, self.store.names, self.store.bodies)[key]
        there = disk.words[key]
        if key in dict(disk.waiting()) or there == worth:
            return None
        disk.write(key, worth)
        return key, there

    def round(self):
        return [pair for pair in [self.step() for _ in self.keys] if pair is not None]


class Steps(unittest.TestCase):
    def test_keys_turn_and_turn_about(self):
        for blocks in (2, 5):
            checker = Checker(Store(Disk(blocks)))
            for _ in range(2):
                for key in keys_of(blocks):
                    self.assertEqual(checker.next_key(), key)
                    self.assertEqual(checker.next_key(), key)
                    self.assertIsNone(checker.step())

    def test_a_step_mends_one_word(self):
        store = small_store(4 + 2)
        disk = store.disk()
        disk.lose(("body", 2))
        disk.spoil(("body", 3), "spoilt")
        disk.lose(("body", 4))
        checker = Checker(store)
        self.assertEqual(checker.step(), (("body", 2), LOST))
        self.assertEqual(disk.waiting(), [(("body", 2), 1)])
        self.assertEqual(checker.step(), (("body", 3), "spoilt"))
        self.assertEqual((disk.seen(("body", 3)), disk.word(("body", 3))), (None, "spoilt"))
        self.assertEqual(checker.step(), (("body", 4), LOST))
        self.assertEqual(disk.seen(("body", 4)), "text")
        self.assertIsNone(checker.step())
        self.assertEqual(disk.calm(), 3)

    def test_nothing_is_written_where_something_waits(self):
        store = Store(Disk(3))
        store.make("/f", "one")
        disk = store.disk()
        before = state_of(disk)
        checker = Checker(store)
        # What is on the disk is wrong, but the right one waits.
        self.assertEqual(checker.round(), [])
        self.assertEqual(state_of(disk), before)
        disk.lose(("body", 2))
        disk.lose(("body", 3))
        self.assertEqual(checker.round(), [(("body", 3), LOST)])
        self.assertEqual(dict(disk.waiting())["body", 2], 1)
        disk.reach(("body", 2))
        disk.lose(("body", 2))
        self.assertEqual(checker.round(), [(("body", 2), LOST)])

    def test_bodies_under_block_1_are_none(self):
        store = Store(Disk(3))
        store.disk().spoil(("body", 3), "text")
        store.disk().lose(("body", 2))
        checker = Checker(store)
        self.assertEqual(checker.round(), [(("body", 2), LOST), (("body", 3), "text")])
        store.calm()
        self.assertEqual([store.disk().word(("body", block)) for block in (2, 3)], [None, None])

    def test_a_round_goes_from_the_next_key_on(self):
        store = Store(Disk(3))
        keys = store.disk().all_keys()
        checker = Checker(store)
        for _ in range(4):
            checker.step()
        for key in keys:
            store.disk().lose(key)
        self.assertEqual(checker.round(), [(key, LOST) for key in keys[4:] + keys[:4]])
        self.assertEqual(checker.next_key(), keys[4])

    def test_behind_a_cut(self):
        store = Store(Disk(4))
        store.folder("/a")
        store.disk().cut()
        checker = Checker(store)
        self.assertEqual([key for key, _ in checker.round()],
                         [("lists", 0, 2), ("lists", 1, 2), ("up", 2)])
        store.calm()
        self.assertEqual(books_of(Store(store.disk())), {"/a": None})

    def test_two_checkers_go_apart(self):
        store = small_store()
        one, other = Checker(store), Checker(store)
        one.step()
        self.assertNotEqual(one.next_key(), other.next_key())
        store.disk().lose(other.next_key())
        self.assertEqual(len(one.round()), 1)
        self.assertIsNone(other.step())

    def test_lists_are_new(self):
        checker = Checker(small_store())
        first = checker.round()
        first.append(1)
        self.assertEqual(checker.round(), [])


class LongRows(unittest.TestCase):
    def test_beside_a_store_that_is_led_on(self):
        found = 0
        for seed in range(20):
            chance = random.Random(seed)
            blocks = [3, 4, 6, 9][seed % 4]
            store, plain = Store(Disk(blocks)), PlainStore(PlainDisk(blocks))
            checker, other = Checker(store), PlainChecker(plain)
            for _ in range(200):
                found += self.do_one(chance, store, plain, checker, other)
            check_same(self, store.disk(), plain.disk)
        self.assertGreater(found, 100)

    def do_one(self, chance, store, plain, checker, other):
        disk, way = store.disk(), chance.random()
        key = chance.choice(disk.all_keys())
        if way < 0.2:
            row = chance_deed(chance, store, books_of(store))
            if row is not None:
                getattr(plain, row[0])(*row[1:])
        elif way < 0.3:
            disk.lose(key)
            plain.disk.words[key] = LOST
        elif way < 0.4:
            worth = (0, "q") if key[0] == "up" else "q"
            disk.spoil(key, worth)
            plain.disk.words[key] = worth
        elif way < 0.6 and disk.waiting():
            key = chance.choice(disk.waiting())[0]
            disk.reach(key)
            plain.disk.reach(key)
        elif way < 0.62:
            self.assertEqual(disk.cut(), plain.disk.cut())
        elif way < 0.65:
            found = checker.round()
            self.assertEqual(found, other.round())
            return len(found)
        else:
            self.assertEqual(checker.next_key(), other.keys[other.at])
            self.assertEqual(checker.step(), other.step())
        return 0

    def test_the_fact_of_the_round(self):
        mended = 0
        for seed in range(60):
            chance = random.Random(seed)
            store = Store(Disk([3, 5, 8][seed % 3]))
            for _ in range(chance.choice([0, 3, 10])):
                chance_deed(chance, store, books_of(store))
            scribble_on(chance, store.disk(), chance.choice([1, 5, 50]))
            checker = Checker(store)
            for _ in range(chance.randint(0, 20)):
                checker.step()
            for _ in range(chance.randint(0, 4)):
                if store.disk().waiting():
                    store.disk().reach(chance.choice(store.disk().waiting())[0])
            scribble_on(chance, store.disk(), chance.choice([0, 5]))
            mended += len(checker.round())
            store.disk().calm()
            self.assertEqual(checker.round(), [])
            self.assertEqual(books_of(Store(store.disk().copy())), books_of(store))
            self.check_right(store)
        self.assertGreater(mended, 100)

    def check_right(self, store):
        """No word on the disk is wrong: they are what a store of it would write."""
        other = store.disk().copy()
        Store(other)
        self.assertEqual(words_on(other), words_on(store.disk()))

    def test_deeds_amid_a_round(self):
        for seed in range(20):
            chance = random.Random(seed)
            store = small_store(6)
            scribble_on(chance, store.disk(), 20)
            checker = Checker(store)
            for _ in store.disk().all_keys():
                checker.step()
                if chance.random() < 0.2:
                    chance_deed(chance, store, books_of(store))
                if store.disk().waiting() and chance.random() < 0.5:
                    store.disk().reach(chance.choice(store.disk().waiting())[0])
            store.calm()
            self.check_right(store)

    def test_equal_calls(self):
        rounds = []
        for _ in range(2):
            chance = random.Random(1)
            store = small_store()
            scribble_on(chance, store.disk(), 40)
            rounds.append(Checker(store).round())
        self.assertEqual(rounds[0], rounds[1])
        self.assertGreater(len(rounds[0]), 20)


if __name__ == "__main__":
    unittest.main()

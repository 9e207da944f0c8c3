"""Points 5 to 10 taken together: what is told of one disk goes together; with [0.3], [0.4]."""

import random
import unittest

from foldervotes.checker import Checker
from foldervotes.counts import many_by_wrong
from foldervotes.disk import Disk
from foldervotes.errors import NameTwice, RingTold
from foldervotes.histories import (History, can_stand, had, is_calm, is_verdict, many_pictures,
                                   now, verdict)
from foldervotes.mount import mounted, salvaged
from foldervotes.nests import cheapest, is_nest, nest
from foldervotes.store import Store
from foldervotes.trees import Tree, place_of
from foldervotes.words import votes, words_of, wrong_words
from tests.plain_disk import (LOST, all_reached, scribble_on, some_reached, state_of, words_on,
                              words_told)
from tests.plain_store import books_of
from tests.test_mount import chance_disk
from tests.test_store_calms import chance_deed


class OneDisk(unittest.TestCase):
    def disks(self):
        for seed in range(80):
            chance = random.Random(seed)
            disk, _ = chance_disk(chance, chance.choice([2, 3, 5, 8, 10]))
            scribble_on(chance, disk, chance.choice([0, 1, 3, 10, 30]))
            if seed % 8 == 0 and disk.size() > 2:
                self.tie(disk, 2, 3)
                self.tie(disk, 3, 2)
            yield disk

    def tie(self, disk, block, place):
        """Lets all words of a block tell one place."""
        disk.spoil(("up", block), (place, "x"))
        for other in range(disk.size() + 1):
            if other != block:
                disk.spoil(("lists", other, block), "x" if other == place else None)

    def test_votes_and_cheapest_trees(self):
        kinds = set()
        for disk in self.disks():
            words = disk.words()
            fewest = cheapest(words)[0]
            by_votes = sum(least for least, _ in votes(words))
            tree, _, _ = salvaged(disk)
            self.assertEqual(wrong_words(words, tree), fewest)
            self.assertTrue(is_nest(words, nest(words)))
            many = many_by_wrong(words)
            self.assertEqual([at for at, count in enumerate(many) if count][0], fewest)
            self.assertLessEqual(by_votes, fewest)
            try:
                tree, _, _ = mounted(disk)
            except RingTold as error:
                kinds.add("RingTold")
                self.check_ring(words, error.blocks)
                continue
            except NameTwice:
                kinds.add("NameTwice")
                continue
            kinds.add("tree")
            self.assertEqual(wrong_words(words, tree), fewest)
            self.assertEqual(by_votes, fewest)
            for block in range(1, disk.size() + 1):
                self.assertIn(place_of(tree, block), votes(words)[block - 1][1])
        self.assertEqual(kinds, {"RingTold", "NameTwice", "tree"})

    def check_ring(self, words, blocks):
        for block in blocks:
            self.assertTrue(set(votes(words)[block - 1][1]) & set(blocks))
        self.assertEqual(tuple(sorted(blocks)), blocks)

    def test_what_is_salvaged_mounts(self):
        for disk in self.disks():
            found = salvaged(disk)
            hung, names, bodies = found[0].hung, found[1], found[2]
            for key, worth in words_told(hung, names, bodies).items():
                disk.write(key, worth)
            disk.calm()
            self.assertEqual(mounted(disk), found)
            self.assertEqual(disk.words(), words_of(found[0]))
            store = Store(disk)
            self.assertEqual(Checker(store).round(), [])
            self.assertEqual(mounted(disk)[0].hung.count(1), store.free())

    def test_stores_write_right_words(self):
        chance = random.Random(2)
        for _ in range(20):
            store = Store(Disk(7))
            for _ in range(15):
                chance_deed(chance, store, books_of(store))
            store.calm()
            words = store.disk().words()
            tree, names, bodies = mounted(store.disk())
            self.assertEqual(words, words_of(tree))
            self.assertEqual(cheapest(words), (0, tree))
            self.assertEqual(salvaged(store.disk()), (tree, names, bodies))
            for path, text in books_of(store).items():
                block = store.block_of(path)
                self.assertEqual(bodies[block - 1], text)
                above, _, name = path.rpartition("/")
                self.assertEqual((place_of(tree, block), names[block - 1]),
                                 (store.block_of(above or "/"), name))

    def test_a_checker_writes_all_wrong_words(self):
        chance = random.Random(3)
        for _ in range(30):
            store = Store(Disk(6))
            for _ in range(10):
                chance_deed(chance, store, books_of(store))
            store.calm()
            right = words_on(store.disk())
            tree = mounted(store.disk())[0]
            scribble_on(chance, store.disk(), 8)
            wrong = [key for key in right if store.disk().word(key) != right[key]]
            ties = [key for key in wrong if key[0] != "body"
                    and store.disk().word(key) != LOST]
            self.assertLessEqual(wrong_words(store.disk().words(), tree), len(ties))
            self.assertEqual([key for key, _ in Checker(store).round()], wrong)
            store.calm()
            self.assertEqual(words_on(store.disk()), right)


class Histories(unittest.TestCase):
    """The moves of a store between two calms, as a history of its tree."""

    def test_moves_of_a_store(self):
        for seed in range(30):
            chance = random.Random(seed)
            store = Store(Disk(6))
            for _ in range(8):
                chance_deed(chance, store, books_of(store))
            store.calm()
            tree, calms, moves = mounted(store.disk())[0], store.calms(), []
            for _ in range(6):
                kept = store.disk().copy()
                row = chance_deed(chance, store, books_of(store))
                if store.calms() > calms:
                    kept.calm()
                    self.assertEqual(mounted(kept)[0], now(History(tree, tuple(moves))))
                    break
                if row is None or row[0] == "put":
                    continue
                moves.append(self.tie(store, kept))
                self.check(chance, store, History(tree, tuple(moves)))

    def tie(self, store, elder):
        """The block that a deed hung elsewhere, and where."""
        disk = store.disk()
        changed = [key for key, many in disk.waiting()
                   if key[0] == "up" and dict(elder.waiting()).get(key) != many]
        self.assertEqual(len(changed), 1)
        return changed[0][1], disk.seen(changed[0])[0]

    def check(self, chance, store, history):
        self.assertEqual(verdict(history)[0], "tree")
        self.assertTrue(is_verdict(history, verdict(history)))
        self.assertTrue(is_calm(history, ()))
        end = store.disk().copy()
        end.calm()
        self.assertEqual(mounted(end)[0], now(history))
        for _ in range(5):
            disk = some_reached(chance, store.disk())
            self.assertTrue(can_stand(history, disk.words()))
            tree = mounted(disk)[0]
            for block, places in had(history).items():
                self.assertIn(place_of(tree, block), places)

    def test_all_pictures_that_can_stand(self):
        store = Store(Disk(4))
        for name in "abc":
            store.folder("/" + name)
        store.calm()
        tree = mounted(store.disk())[0]
        store.move("/a", "/b/x")
        store.move("/c", "/b/y")
        store.move("/b/x", "/z")
        history = History(tree, ((2, 3), (4, 3), (2, 0)))
        pictures = []
        for disk in all_reached(store.disk()):
            if disk.words() not in pictures:
                pictures.append(disk.words())
        self.assertTrue(all(can_stand(history, words) for words in pictures))
        self.assertEqual(len(pictures), many_pictures(history))


class EqualCalls(unittest.TestCase):
    def results(self, seed):
        chance = random.Random(seed)
        disk, _ = chance_disk(chance, 6)
        scribble_on(chance, disk, 3)
        found = [salvaged(disk), votes(disk.words()), state_of(disk)]
        store = Store(Disk(6))
        for _ in range(20):
            chance_deed(chance, store, books_of(store))
        scribble_on(chance, store.disk(), 5)
        return found + [books_of(store), store.calms(), store.free(), store.entries("/"),
                        Checker(store).round(), state_of(store.disk())]

    def test_everything(self):
        for seed in range(10):
            self.assertEqual(self.results(seed), self.results(seed))

    def test_objects_of_unlike_classes(self):
        store = Store(Disk(3))
        made = [Disk(3), store, Checker(store), Tree((0,)), 3, "store", None]
        for at, one in enumerate(made):
            for other in made[:at] + made[at + 1:]:
                self.assertFalse(one == other)


if __name__ == "__main__":
    unittest.main()

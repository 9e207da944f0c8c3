"""[9.2]: what deeds of a store write, when it calms, and the fact of the store."""

import itertools
import random
import time
import unittest

from foldervotes.disk import Disk
from foldervotes.errors import (Beneath, NoBlocks, NoPath, NotEmpty, NotFolder, NotThere,
                                TakenPath, VoteError)
from foldervotes.histories import History, fewest_calms
from foldervotes.store import Store
from foldervotes.trees import Tree
from tests.plain_disk import (PlainDisk, all_reached, check_same, disk_of, some_reached,
                              state_of, words_on, words_told)
from tests.plain_store import Failed, PlainStore, books_of
from tests.test_histories import has_ring
from tests.things import refused


def written(store, method, *args):
    """What a deed of a store writes behind a calm, by keys."""
    store.disk().calm()
    getattr(store, method)(*args)
    disk = store.disk()
    assert all(many == 1 for _, many in disk.waiting())
    return {key: disk.seen(key) for key, _ in disk.waiting()}


class Words(unittest.TestCase):
    """Which words a deed writes, each if it is another one than seen."""

    def test_make_and_folder(self):
        store = Store(Disk(5))
        self.assertEqual(written(store, "folder", "/a"), {
            ("up", 2): (0, "a"), ("lists", 1, 2): None, ("lists", 0, 2): "a"})
        self.assertEqual(written(store, "make", "/a/f", ""), {
            ("body", 3): "", ("up", 3): (2, "f"), ("lists", 1, 3): None, ("lists", 2, 3): "f"})

    def test_put(self):
        store = Store(Disk(5))
        store.make("/f", "one")
        store.calm()
        self.assertEqual(written(store, "put", "/f", "two"), {("body", 2): "two"})
        self.assertEqual(written(store, "put", "/f", "two"), {})

    def test_moves(self):
        store = Store(Disk(5))
        store.folder("/a")
        store.make("/f", "text")
        store.calm()
        self.assertEqual(written(store, "move", "/f", "/g"), {
            ("up", 3): (0, "g"), ("lists", 0, 3): "g"})
        self.assertEqual(written(store, "move", "/g", "/a/h"), {
            ("up", 3): (2, "h"), ("lists", 0, 3): None, ("lists", 2, 3): "h"})

    def test_drop(self):
        store = Store(Disk(5))
        store.folder("/a")
        store.make("/f", "text")
        store.calm()
        self.assertEqual(written(store, "drop", "/f"), {
            ("body", 3): None, ("up", 3): (1, ""), ("lists", 0, 3): None, ("lists", 1, 3): ""})
        self.assertEqual(written(store, "drop", "/a"), {
            ("up", 2): (1, ""), ("lists", 0, 2): None, ("lists", 1, 2): ""})

    def test_words_that_are_lost_or_spoilt(self):
        store = Store(Disk(4))
        store.folder("/a")
        store.make("/f", "text")
        store.calm()
        disk = store.disk()
        for key in (("lists", 0, 3), ("up", 3), ("body", 3)):
            disk.lose(key)
        # The body is no word of this deed.
        self.assertEqual(written(store, "move", "/f", "/a/f"), {
            ("up", 3): (2, "f"), ("lists", 0, 3): None, ("lists", 2, 3): "f"})
        self.assertEqual(written(store, "put", "/a/f", "text"), {("body", 3): "text"})
        disk.spoil(("up", 3), (2, "g"))
        disk.spoil(("lists", 2, 3), None)
        disk.spoil(("lists", 0, 3), "x")
        # What is there already, by whatever spoilt it, is not written.
        self.assertEqual(written(store, "move", "/a/f", "/a/g"), {("lists", 2, 3): "g"})

    def test_worths_wait_behind_one_another(self):
        store = Store(Disk(3))
        store.make("/f", "one")
        for text in ("two", "two", "three"):
            store.put("/f", text)
        store.move("/f", "/g")
        store.move("/g", "/h")
        self.assertEqual(store.disk().waiting(), [
            (("body", 2), 3), (("lists", 0, 2), 3), (("lists", 1, 2), 1), (("up", 2), 3)])


class Blocks(unittest.TestCase):
    """Which block make and folder take."""

    def test_the_least(self):
        store = Store(Disk(6))
        for block, path in enumerate(("/a", "/b", "/c"), start=2):
            store.folder(path)
            self.assertEqual(store.block_of(path), block)
        store.drop("/a")
        store.drop("/b")
        # Blocks 2 and 3 did not hang under block 1 all the time.
        store.make("/d", "")
        self.assertEqual((store.block_of("/d"), store.calms()), (5, 0))
        store.calm()
        store.make("/e", "")
        self.assertEqual((store.block_of("/e"), store.calms()), (2, 1))
        store.make("/f", "")
        self.assertEqual(store.block_of("/f"), 3)

    def test_behind_a_calm_for_a_name_a_lesser_one(self):
        store = Store(Disk(6))
        store.folder("/a")
        store.folder("/b")
        store.drop("/a")
        store.folder("/a")
        self.assertEqual((store.block_of("/a"), store.calms()), (2, 1))

    def test_a_cut_frees_no_block_of_the_store(self):
        store = Store(Disk(3))
        store.folder("/a")
        store.disk().cut()
        store.folder("/b")
        self.assertEqual((store.block_of("/b"), store.free()), (3, 0))


class When(unittest.TestCase):
    """When the store calms: each reason alone, and none."""

    def done(self, blocks, begin, *rows):
        """How often a store calms at each of some deeds, behind a calm of those that begin."""
        store, plain = Store(Disk(blocks)), PlainStore(PlainDisk(blocks))
        for method, *args in begin:
            for one in (store, plain):
                getattr(one, method)(*args)
        for one in (store, plain):
            one.calm()
        found = []
        for method, *args in rows:
            before = store.calms()
            plain.why = []
            for one in (store, plain):
                getattr(one, method)(*args)
            self.assertEqual(store.calms() - before, len(plain.why))
            found.append("".join(plain.why))
            check_same(self, store.disk(), plain.disk)
        return found

    FOLDERS = [("folder", "/a"), ("folder", "/b"), ("folder", "/c")]

    def test_none(self):
        found = self.done(6, self.FOLDERS, ("move", "/a", "/b/a"), ("move", "/b", "/c/b"),
                          ("make", "/f", "x"), ("put", "/f", "y"), ("put", "/f", "z"),
                          ("folder", "/g"), ("move", "/f", "/g/f"), ("move", "/c/b/a", "/aa"),
                          ("drop", "/g/f"), ("drop", "/aa"))
        self.assertEqual(found, [""] * 10)

    def test_a_ring(self):
        found = self.done(6, self.FOLDERS, ("move", "/a", "/b/x"), ("move", "/b/x", "/y"),
                          ("move", "/b", "/y/z"))
        self.assertEqual(found, ["", "", "a"])
        found = self.done(6, self.FOLDERS, ("move", "/a", "/b/x"), ("move", "/b", "/c/y"),
                          ("move", "/c/y/x", "/u"), ("move", "/c", "/u/v"))
        self.assertEqual(found, ["", "", "", "a"])

    def test_a_name_twice(self):
        for row in (("move", "/b", "/a"), ("folder", "/a"), ("make", "/a", "")):
            found = self.done(6, self.FOLDERS, ("move", "/a", "/c/a"), row)
            self.assertEqual(found, ["", "b"])
        # One block may come back to a name of its own.
        found = self.done(6, self.FOLDERS, ("move", "/a", "/x"), ("move", "/x", "/a"),
                          ("move", "/a", "/c/a"), ("move", "/c/a", "/x"), ("folder", "/c/b"),
                          ("drop", "/b"), ("folder", "/b"))
        self.assertEqual(found, ["", "", "", "", "", "", "b"])
        # Names of what hangs under block 1 are the same, and that of block 1 itself.
        found = self.done(6, self.FOLDERS, ("drop", "/a"), ("drop", "/b"), ("drop", "/c"))
        self.assertEqual(found, ["", "", ""])

    def test_used_blocks_that_lead_to_block_1(self):
        begin = self.FOLDERS + [("make", "/a/f", "x")]
        found = self.done(7, begin, ("move", "/a/f", "/f"), ("drop", "/a"))
        self.assertEqual(found, ["", "c"])
        found = self.done(7, begin, ("drop", "/a/f"), ("drop", "/a"))
        self.assertEqual(found, ["", ""])
        found = self.done(7, begin, ("folder", "/n"), ("move", "/c", "/n/c"))
        self.assertEqual(found, ["", "c"])
        found = self.done(8, begin, ("folder", "/n"), ("folder", "/n/m"), ("make", "/n/m/f", ""),
                          ("move", "/n/m/f", "/a/g"), ("move", "/n/m", "/a/m"),
                          ("move", "/a", "/aa"))
        self.assertEqual(found, [""] * 6)
        # What hung beneath /a since leads over it.
        found = self.done(7, begin, ("move", "/b", "/a/b"), ("move", "/c", "/a/b/c"),
                          ("move", "/a/b", "/bb"), ("move", "/bb/c", "/cc"), ("drop", "/bb"))
        self.assertEqual(found, ["", "", "", "", "c"])

    def test_a_block_that_was_dropped_may_lead_to_block_1(self):
        found = self.done(7, self.FOLDERS, ("folder", "/n"), ("folder", "/n/m"), ("drop", "/n/m"),
                          ("drop", "/n"), ("drop", "/a"))
        self.assertEqual(found, [""] * 5)

    def test_no_block_left_since_the_calm(self):
        found = self.done(5, self.FOLDERS, ("make", "/f", "x"), ("drop", "/f"), ("make", "/g", ""))
        self.assertEqual(found, ["", "", "d"])
        found = self.done(5, self.FOLDERS, ("drop", "/a"), ("make", "/f", "x"), ("folder", "/g"))
        self.assertEqual(found, ["", "", "d"])

    def test_put_never_calms(self):
        found = self.done(3, [("make", "/f", "")], *[("put", "/f", "abc"[:at % 4])
                                                     for at in range(50)])
        self.assertEqual(found, [""] * 50)

    def test_several_reasons_calm_once(self):
        found = self.done(7, self.FOLDERS, ("move", "/a", "/b/x"), ("move", "/b/x", "/y"),
                          ("folder", "/y/n"), ("folder", "/y/n/z"), ("drop", "/y/n/z"),
                          ("move", "/b", "/y/n/z"))
        self.assertEqual(found, [""] * 5 + ["abc"])

    def test_what_was_there_at_the_calm_counts(self):
        store = Store(Disk(6))
        for path in ("/a", "/b", "/b/c"):
            store.folder(path)
        store.calm()
        store.move("/b/c", "/c")
        self.assertEqual(store.calms(), 1)
        # c hung under b at the calm.
        store.move("/b", "/c/b")
        self.assertEqual(store.calms(), 2)
        # Behind it only what was then is had.
        store.move("/c", "/cc")
        store.move("/a", "/c")
        self.assertEqual(store.calms(), 3)

    def test_calms(self):
        store = Store(Disk(3))
        for many in range(1, 4):
            store.calm()
            self.assertEqual(store.calms(), many)
        self.assertEqual(Store(store.disk()).calms(), 0)

    def test_e09_by_deeds(self):
        store = Store(Disk(4))
        store.folder("/a")
        store.folder("/b")
        store.calm()
        store.move("/a", "/b/a")
        store.move("/b/a", "/c")
        self.assertEqual(store.calms(), 1)
        store.move("/b", "/c/b")
        self.assertEqual(store.calms(), 2)

    def test_nothing_ahead_of_an_error(self):
        store = Store(Disk(5))
        for path in ("/a", "/b", "/c", "/d"):
            store.folder(path)
        store.calm()
        store.move("/a", "/b/x")
        store.move("/b/x", "/y")
        for error, method, *args in (
                # Each would want a calm, were it done.
                (NoBlocks, "folder", "/a"), (NoBlocks, "make", "/a", "text"),
                (Beneath, "move", "/b", "/b/a"), (TakenPath, "move", "/b", "/y"),
                (NotThere, "move", "/b", "/a/b"), (NoPath, "move", "/b", "/a/"),
                (NotThere, "drop", "/a")):
            refused(self, store, error, getattr(store, method), *args)
        self.assertEqual(store.calms(), 1)
        self.assertEqual(len(store.disk().waiting()), 3)
        refused(self, store, NotFolder, full_of_files().move, "/a", "/b/c")
        refused(self, store, NotEmpty, small_tree().drop, "/a")


def full_of_files():
    store = Store(Disk(3))
    store.make("/a", "")
    store.make("/b", "")
    return store


def small_tree():
    store = Store(Disk(3))
    store.folder("/a")
    store.folder("/a/b")
    return store


def chance_deed(chance, store, books, names="abc"):
    """Does some deed of a store that will do; gives its method and arguments."""
    paths = ["/", *books]
    folders = [path for path in paths if books.get(path) is None]
    path = chance.choice(paths)
    new = chance.choice(folders).rstrip("/") + "/" + chance.choice(names)
    text = chance.choice(["", "one", "two", "three"])
    row = chance.choice([("make", new, text), ("folder", new), ("put", path, text),
                         ("move", path, new), ("move", path, new), ("drop", path)])
    try:
        getattr(store, row[0])(*row[1:])
    except VoteError:
        return None
    return row


class Fact(unittest.TestCase):
    """THE FACT OF THE STORE."""

    def blocks_of(self, store):
        """For each block in use its place, name, and body."""
        found = {}
        for path, text in books_of(store).items():
            above, _, name = path.rpartition("/")
            found[store.block_of(path)] = store.block_of(above or "/"), name, text
        return found

    def check_cut(self, disk, at_calm, had, dropped):
        """Checks the store of a disk behind a cut; gives it."""
        store = Store(disk)
        found = self.blocks_of(store)
        for block in at_calm:
            if block not in dropped:
                self.assertIn(block, found)
        for block, (place, name, text) in found.items():
            self.assertIn((place, name), had[block][0])
            if text is not None or block in at_calm and block not in dropped:
                self.assertIn(text, had[block][1])
        return store

    def follow(self, chance, store, many, ways):
        """Leads a store on and cuts it, now and then; gives a store behind a cut."""
        def now(block):
            return self.blocks_of(store).get(block, (1, "", None))
        blocks = range(2, store.disk().size() + 1)
        at_calm = self.blocks_of(store)
        had = {block: ({now(block)[:2]}, {now(block)[2]}) for block in blocks}
        dropped, calms = set(), store.calms()
        for _ in range(many):
            books = books_of(store)
            before = self.blocks_of(store)
            if chance_deed(chance, store, books) is None:
                continue
            if store.calms() > calms:
                calms, dropped, at_calm = store.calms(), set(), before
                had = {block: ({before.get(block, (1, "", None))[:2]},
                               {before.get(block, (1, "", None))[2]}) for block in blocks}
            dropped |= set(before) - set(self.blocks_of(store))
            for block in blocks:
                had[block][0].add(now(block)[:2])
                had[block][1].add(now(block)[2])
            if chance.random() < 0.3 and store.disk().waiting():
                store.disk().reach(chance.choice(store.disk().waiting())[0])
            for _ in range(ways):
                self.check_cut(some_reached(chance, store.disk()), at_calm, had, dropped)
        return self.check_cut(some_reached(chance, store.disk()), at_calm, had, dropped)

    def test_long_rows(self):
        calms = 0
        for seed in range(40):
            chance = random.Random(seed)
            store = Store(Disk([3, 4, 5, 6, 8][seed % 5]))
            for _ in range(4):
                store = self.follow(chance, store, 18, 3)
                calms += store.calms()
        self.assertEqual(calms, 0)

    def test_all_ways_of_some_rows(self):
        """All ways to reach, as the last deed is done."""
        for seed in range(40):
            chance = random.Random(seed)
            store = Store(Disk(4))
            store.folder("/a")
            store.make("/b", "one")
            store.calm()
            books = []
            for _ in range(3):
                chance_deed(chance, store, books_of(store))
                books.append(set(books_of(store)))
            for disk in all_reached(store.disk()):
                self.assertIsInstance(books_of(Store(disk)), dict)

    def test_new_things_behind_a_cut(self):
        store = Store(Disk(4))
        store.folder("/a")
        store.make("/a/f", "text")
        found = set()
        for disk in all_reached(store.disk()):
            found.add(tuple(books_of(Store(disk)).items()))
        self.assertEqual(found, {(), (("/a", None),), (("/a", None), ("/a/f", None)),
                                 (("/a", None), ("/a/f", "text"))})


def tree_rows(many):
    """All rows of so many moves of three folders, as (block, place, name)."""
    return itertools.product([(block, place, name) for block in (2, 3, 4)
                              for place in (0, 2, 3, 4) if place != block for name in "xy"],
                             repeat=many)


class MovesAlone(unittest.TestCase):
    """Without make and drop no keeper that calms ahead of deeds calms less often."""

    HUNG, NAMES = (0, 0, 0, 0), ("", "x", "y", "z")

    def fewest(self, ties, moves):
        """The fewest lots of moves ahead of which a calm would do, of all lots."""
        for many in range(len(moves) + 1):
            for lot in itertools.combinations(range(len(moves)), many):
                if self.will_do(dict(ties), moves, lot):
                    return many
        return None

    def will_do(self, now, moves, lot):
        had = {(block, *tie) for block, tie in now.items()}
        for at, (block, place, name) in enumerate(moves):
            if at in lot:
                had = {(other, *tie) for other, tie in now.items()}
            now[block] = place, name
            had.add((block, place, name))
            places = {other: {tie[1] for tie in had if tie[0] == other} for other in now}
            ends = [tie[1:] for tie in had]
            if has_ring(places) or len(set(ends)) < len(ends):
                return False
        return True

    def moved(self, moves):
        """The store behind moves, or None if one can't be done."""
        disk = disk_of(4, words_told(self.HUNG, self.NAMES, (None,) * 4))
        store = Store(disk)
        for block, place, name in moves:
            paths = {0: ""} | {store.block_of(path): path for path in books_of(store)}
            try:
                store.move(paths[block], paths[place] + "/" + name)
            except VoteError:
                return None
        return store

    def check(self, moves):
        store = self.moved(moves)
        if store is None:
            return None
        ties = {block: (self.HUNG[block - 1], self.NAMES[block - 1]) for block in (2, 3, 4)}
        self.assertEqual(store.calms(), self.fewest(ties, moves), moves)
        return store.calms()

    def test_all_rows_of_two(self):
        found = [self.check(moves) for moves in tree_rows(2)]
        self.assertGreater(found.count(1), 5)

    def test_some_rows_of_more(self):
        chance = random.Random(1)
        rows = list(tree_rows(1))
        found = []
        while len(found) < 150:
            moves, many = [], chance.randint(3, 6)
            while len(moves) < many:
                moves.append(chance.choice(rows)[0])
                if self.moved(moves) is None:
                    moves.pop()
            found.append(self.check(tuple(moves)))
        self.assertGreater(found.count(1), 10)
        self.assertGreater(found.count(2), 3)

    def test_as_histories_tell(self):
        """By unlike names the store calms as often as fewest_calms tells."""
        for seed in range(60):
            chance = random.Random(seed)
            blocks = 6
            store = Store(disk_of(blocks, words_told((0,) * blocks, ("", *"abcde"),
                                                     (None,) * blocks)))
            moves = []
            for at in range(12):
                paths = {0: ""} | {store.block_of(path): path for path in books_of(store)}
                block, place = chance.randint(2, blocks), chance.choice([0, *range(2, blocks + 1)])
                try:
                    store.move(paths[block], paths[place] + "/n" + "abcdefghijkl"[at])
                except VoteError:
                    continue
                moves.append((block, place))
            history = History(Tree((0,) * blocks), tuple(moves))
            self.assertEqual(store.calms(), len(fewest_calms(history)))


class Meanwhile(unittest.TestCase):
    def test_whatever_reached_the_disk(self):
        for seed in range(20):
            chance = random.Random(seed)
            one, other = Store(Disk(6)), Store(Disk(6))
            for _ in range(60):
                row = chance_deed(chance, one, books_of(one))
                if row is not None:
                    getattr(other, row[0])(*row[1:])
                while chance.random() < 0.6 and other.disk().waiting():
                    other.disk().reach(chance.choice(other.disk().waiting())[0])
                self.assertEqual((one.calms(), one.free()), (other.calms(), other.free()))
                self.assertEqual(books_of(one), books_of(other))
            one.calm()
            other.calm()
            self.assertEqual(words_on(one.disk()), words_on(other.disk()))

    def test_words_that_reach_in_any_order_come_to_what_is_told(self):
        chance = random.Random(1)
        store = Store(Disk(8))
        for _ in range(100):
            chance_deed(chance, store, books_of(store))
        while store.disk().waiting():
            store.disk().reach(chance.choice(store.disk().waiting())[0])
        again = Store(store.disk().copy())
        self.assertEqual(books_of(again), books_of(store))
        self.assertEqual(state_of(again.disk()), state_of(store.disk()))


class LongRows(unittest.TestCase):
    def test_all_reasons_are_met(self):
        why = set()
        for seed in range(30):
            chance = random.Random(seed)
            store, plain = Store(Disk(6)), PlainStore(PlainDisk(6))
            for _ in range(80):
                row = chance_deed(chance, store, plain.books, "ab")
                if row is not None:
                    try:
                        getattr(plain, row[0])(*row[1:])
                    except Failed as failed:
                        self.fail(failed.kind)
                self.assertEqual(store.calms(), plain.calms)
            check_same(self, store.disk(), plain.disk)
            why |= set(plain.why)
        self.assertLessEqual({"a", "b", "c", "d", "ab"}, why)


class Forty(unittest.TestCase):
    def test_forty_folders_in_one_another(self):
        begun = time.monotonic()
        store = Store(Disk(40))
        path = ""
        for at in range(38):
            path += "/" + "abcdefgh"[:at % 8 + 1]
            store.folder(path)
        store.make(path + "/f", "deep")
        self.assertEqual((store.read(path + "/f"), store.free(), store.calms()), ("deep", 0, 0))
        refused(self, store, Beneath, store.move, "/a", path + "/x")
        refused(self, store, NoBlocks, store.folder, path + "/x")
        store.calm()
        half = path[:path.index("/", len(path) // 2)]
        store.move(half, "/half")
        store.move("/a", "/half/a")
        self.assertEqual(store.calms(), 2)
        again = Store(store.disk().copy())
        self.assertEqual(again.kind("/half"), "folder")
        while store.entries("/"):
            for deep in sorted(books_of(store), key=len, reverse=True):
                store.drop(deep)
        self.assertEqual(store.free(), 39)
        self.assertLess(time.monotonic() - begun, 10)

    def test_forty_blocks_moved_about(self):
        begun = time.monotonic()
        chance = random.Random(1)
        store = Store(Disk(40))
        books = {}
        for at in range(400):
            chance_deed(chance, store, books, "abcdefghijklm")
            if at % 4 == 0:
                books = books_of(store)
        self.assertGreater(store.calms(), 3)
        for _ in range(5):
            again = Store(some_reached(chance, store.disk()))
            self.assertGreater(len(books_of(again)), 3)
        self.assertLess(time.monotonic() - begun, 20)


if __name__ == "__main__":
    unittest.main()

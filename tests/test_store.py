"""[9.1]: stores, all their methods and errors; with [0.3], [0.4] for them."""

import random
import unittest

from foldervotes.disk import Disk
from foldervotes.errors import (BadBody, Beneath, NameTwice, NoBlocks, NoPath, NotEmpty, NoText,
                                NotFile, NotFolder, NotThere, RingTold, TakenPath)
from foldervotes.store import Store
from tests.plain_disk import (LOST, PlainDisk, check_same, disk_of, scribble_on, state_of,
                              words_on, words_told)
from tests.plain_store import Failed, PlainStore, books_of
from tests.test_disk import NOT_TEXTS, TEXTS
from tests.things import HUGE, nested, refused, strange_things

NOT_PATHS = ["", "a", "a/b", "//", "//a", "/a/", "/a//b", "/A", "/a1", "/a b", "/a ", " /a", "/ ",
             "/abcdefghi", "/a/abcdefghi", "/a\n", "\n", "/\n", "/a/.", "/..", "\\a", "/a-b",
             "/lost!", "a/", "/a/b/", ".", "/" + "a" * 5000, "/a" * 3000 + "/"]
QUESTIONS = ("entries", "kind", "read", "block_of")
DEEDS = ("make", "folder", "put", "move", "drop")


def not_paths():
    return NOT_PATHS + [thing for thing in strange_things()
                        if thing != "/"] + [0, 1, HUGE, ("/a",), ["/"], (), b"/", b"/a",
                                            nested(lambda x: ("/", x), "/a")]


def small_store(blocks=9):
    """A store with some files and folders."""
    store = Store(Disk(blocks))
    store.folder("/a")
    store.folder("/a/b")
    store.make("/a/f", "text")
    store.make("/g", "")
    store.folder("/e")
    store.calm()
    return store


class MakeStore(unittest.TestCase):
    """What a store writes when it is made, and the errors of that."""

    def check(self, disk):
        """Makes a store of a disk, or none; what a plain one told: an error, or "" """
        plain = PlainDisk(disk.size())
        plain.words = words_on(disk)
        before = state_of(disk)
        try:
            expected = PlainStore(plain)
        except Failed as failed:
            error = refused(self, disk, failed.kind, Store, disk)
            self.assertEqual(tuple(vars(error).values()), failed.fields)
            self.assertEqual(state_of(disk), before)
            return failed.kind.__name__
        store = Store(disk)
        self.assertIs(store.disk(), disk)
        check_same(self, disk, plain)
        self.assertEqual((disk.waiting(), store.calms()), ([], 0))
        self.assertEqual(books_of(store), expected.books)
        self.assertEqual(store.free(), expected.free())
        self.assertEqual(words_on(disk), words_told(expected.hung, expected.names,
                                                    expected.bodies))
        return ""

    def test_new_disks(self):
        for blocks in (2, 3, 40):
            disk = Disk(blocks)
            self.assertEqual(self.check(disk), "")
            self.assertEqual(words_on(disk), words_on(Disk(blocks)))
            self.assertEqual(Store(disk).free(), blocks - 1)
            self.assertEqual(Store(disk).entries("/"), [])

    def test_scribbled_disks(self):
        found = []
        for seed in range(400):
            chance = random.Random(seed)
            disk = small_store(7).disk().copy()
            scribble_on(chance, disk, chance.choice([0, 1, 2, 3, 5, 9, 30]),
                        chance.choice([0, 0, 0.5, 1]))
            found.append(self.check(disk))
        for kind in ("", "RingTold", "NameTwice", "BadBody"):
            self.assertGreater(found.count(kind), 1, kind)

    def test_what_hangs_beneath_block_1(self):
        told = ((0, 1, 2, 3, 0), ("", "", "x", "y", "z"), (None, "t", LOST, "u", "v"))
        disk = disk_of(5, words_told(*told))
        self.assertEqual(self.check(disk), "")
        self.assertEqual(words_on(disk), words_told(
            (0, 1, 1, 1, 0), ("", "", "", "", "z"), (None, None, None, None, "v")))
        # Names are told twice there, too.
        told = ((0, 1, 2, 2), ("", "", "x", "x"), (None,) * 4)
        self.assertEqual(self.check(disk_of(4, words_told(*told))), "NameTwice")

    def error(self, kind, hung, names, bodies):
        disk = disk_of(len(hung), words_told(hung, names, bodies))
        disk.write(("body", 2), "waits")
        self.check(disk)
        return tuple(vars(refused(self, disk, kind, Store, disk)).values())

    def test_rings_and_names(self):
        self.assertEqual(self.error(RingTold, (0, 0, 4, 3), ("", "", "x", "y"),
                                    (None, LOST, None, None)), ((3, 4),))
        self.assertEqual(self.error(NameTwice, (0, 0, 0, 2), ("", "x", "x", "y"),
                                    (None, "text", LOST, None)), (0, "x"))

    def test_bodies(self):
        names = ("", "x", "y", "z")
        self.assertEqual(self.error(BadBody, (0, 0, 0, 0), names, (None, None, LOST, LOST)), (3,))
        self.assertEqual(self.error(BadBody, (0, 3, 0, 0), names, (None, None, "t", LOST)), (3,))
        self.assertEqual(self.error(BadBody, (0, 3, 0, 0), names, (None, LOST, "t", LOST)), (2,))
        self.assertEqual(self.error(BadBody, (0, 0, 0, 0), ("", "x", "y", ""),
                                    (None, None, "t", "u")), (4,))
        self.assertEqual(self.error(BadBody, (0, 0, 2, 2), ("", "x", "y", ""),
                                    (None, "", None, None)), (2,))

    def test_bodies_that_will_do(self):
        names = ("", "", "y", "z")
        told = (0, 1, 0, 3), names, (None, LOST, None, "")
        self.assertEqual(self.check(disk_of(4, words_told(*told))), "")
        told = (0, 1, 2, 0), ("", "", "", "z"), (None, "text", LOST, "")
        self.assertEqual(self.check(disk_of(4, words_told(*told))), "")

    def test_what_waits_does_not_come_behind(self):
        disk = small_store().disk()
        before = words_on(disk)
        disk.write(("up", 2), (1, ""))
        disk.write(("body", 4), "other")
        disk.write(("lists", 0, 2), "q")
        store = Store(disk)
        self.assertEqual((words_on(disk), disk.waiting()), (before, []))
        self.assertEqual(store.read("/a/f"), "text")


class LongRows(unittest.TestCase):
    """Deeds and questions by chance, beside plain books."""

    def paths(self, chance, plain):
        """Some paths, most of them of things that are there, or just beside."""
        known = ["/", *plain.books]
        found = []
        for _ in range(3):
            path = chance.choice(known)
            way = chance.random()
            if way < 0.5:
                path = path.rstrip("/") + "/" + chance.choice("abcd")
            elif way < 0.6:
                path = path.rstrip("/") + "/" + chance.choice("abcd") + "/" + chance.choice("ab")
            elif way < 0.65:
                path = chance.choice(NOT_PATHS)
            found.append(path)
        return found

    def do_one(self, chance, store, plain):
        one, other, _ = self.paths(chance, plain)
        method = chance.choice(DEEDS + DEEDS + QUESTIONS + ("free", "calms"))
        text = chance.choice(TEXTS if chance.random() < 0.9 else NOT_TEXTS)
        args = {"make": (one, text), "put": (one, text), "move": (one, other),
                "free": (), "calms": ()}.get(method, (one,))
        if chance.random() < 0.02:
            method, args = "calm", ()
        try:
            expected = plain.calms if method == "calms" else getattr(plain, method)(*args)
        except Failed as failed:
            error = refused(self, store, failed.kind, getattr(store, method), *args)
            self.assertEqual(tuple(vars(error).values()), failed.fields, (method, args))
            return failed.kind.__name__
        self.assertEqual(getattr(store, method)(*args), expected, (method, args))
        return method

    def test_rows(self):
        done = set()
        for seed in range(24):
            chance = random.Random(seed)
            blocks = [3, 5, 7, 12][seed % 4]
            disk, plain_disk = Disk(blocks), PlainDisk(blocks)
            store, plain = Store(disk), PlainStore(plain_disk)
            for at in range(300):
                done.add(self.do_one(chance, store, plain))
                if chance.random() < 0.3 and disk.waiting():
                    key = chance.choice(disk.waiting())[0]
                    disk.reach(key)
                    plain_disk.reach(key)
                if at % 10 == 0:
                    check_same(self, disk, plain_disk)
                    self.assertEqual(books_of(store), plain.books)
            check_same(self, disk, plain_disk)
            self.assertEqual(store.calms(), plain.calms)
        self.assertLessEqual({"NoPath", "NotThere", "NotFolder", "NotFile", "TakenPath", "NoText",
                              "Beneath", "NotEmpty", "NoBlocks", "calm", "free", "calms",
                              *QUESTIONS, *DEEDS}, done)

    def test_rows_with_cuts_and_words_that_are_spoilt(self):
        errors = set()
        for seed in range(40):
            chance = random.Random(seed)
            disk, plain_disk = Disk(5), PlainDisk(5)
            store, plain = Store(disk), PlainStore(plain_disk)
            for _ in range(120):
                self.do_one(chance, store, plain)
                key = chance.choice(disk.all_keys())
                way = chance.random()
                if way < 0.06:
                    disk.lose(key)
                    plain_disk.words[key] = LOST
                elif way < 0.12:
                    disk.spoil(key, (0, "q") if key[0] == "up" else "q")
                    plain_disk.words[key] = (0, "q") if key[0] == "up" else "q"
                elif way < 0.14:
                    # The store goes on, though it is behind its disk now.
                    self.assertEqual(disk.cut(), plain_disk.cut())
                elif way < 0.17:
                    disk.cut()
                    plain_disk.cut()
                    try:
                        plain = PlainStore(plain_disk)
                    except Failed as failed:
                        refused(self, disk, failed.kind, Store, disk)
                        errors.add(failed.kind)
                        break
                    store = Store(disk)
            check_same(self, disk, plain_disk)
        self.assertTrue(errors)


class Paths(unittest.TestCase):
    """Each error, with its path, for the arguments in their order."""

    def setUp(self):
        self.store = small_store()

    def error(self, kind, method, *args):
        return tuple(vars(refused(self, self.store, kind, getattr(self.store, method),
                                  *args)).values())

    def test_no_path(self):
        for path in not_paths():
            for method in QUESTIONS + ("folder", "drop"):
                error = refused(self, None, NoPath, getattr(self.store, method), path)
                self.assertIs(error.path, path)
            for method in ("make", "put"):
                for text in ("text", "A", None):
                    self.assertIs(refused(self, None, NoPath, getattr(self.store, method),
                                          path, text).path, path)
            for other in ("/x", "/", "", None, "/no/no"):
                self.assertIs(refused(self, None, NoPath, self.store.move, path, other).path,
                              path)
            self.assertIs(refused(self, None, NoPath, self.store.move, "/g", path).path, path)
        self.assertEqual(books_of(self.store), books_of(small_store()))
        self.assertEqual(state_of(self.store.disk()), state_of(small_store().disk()))

    def test_the_head_is_not_moved_or_dropped(self):
        self.assertEqual(self.error(NoPath, "drop", "/"), ("/",))
        for other in ("/x", "/", "", "/a", "/no/no"):
            self.assertEqual(self.error(NoPath, "move", "/", other), ("/",))
        self.assertEqual(self.error(NoPath, "move", "/g", "/"), ("/",))

    def test_not_there_with_the_longest_beginning(self):
        for path, begin in (("/x", "/"), ("/x/y", "/"), ("/a/x", "/a"), ("/a/x/y", "/a"),
                            ("/a/b/x", "/a/b"), ("/g/x", "/g"), ("/g/x/y", "/g"), ("/ab", "/"),
                            ("/a/f/a", "/a/f"), ("/b", "/"), ("/a/bb", "/a"), ("/aa/b", "/")):
            for method, more in (("entries", ()), ("read", ()), ("block_of", ()), ("drop", ()),
                                 ("put", ("A",)), ("move", ("",)), ("move", ("/a",))):
                self.assertEqual(self.error(NotThere, method, path, *more), (begin,))
            self.assertEqual(self.store.kind(path), None)
        for path, begin in (("/x/y", "/"), ("/x/y/z", "/"), ("/a/x/y", "/a"), ("/g/x/y", "/g")):
            for method, more in (("make", ("A",)), ("folder", ())):
                self.assertEqual(self.error(NotThere, method, path, *more), (begin,))
            self.assertEqual(self.error(NotThere, "move", "/e", path), (begin,))

    def test_not_folder_and_not_file(self):
        self.assertEqual(self.error(NotFolder, "entries", "/g"), ("/g",))
        self.assertEqual(self.error(NotFolder, "make", "/g/x", "A"), ("/g",))
        self.assertEqual(self.error(NotFolder, "folder", "/a/f/x"), ("/a/f",))
        self.assertEqual(self.error(NotFolder, "move", "/e", "/a/f/x"), ("/a/f",))
        self.assertEqual(self.error(NotFolder, "move", "/g", "/g/x"), ("/g",))
        for path in ("/", "/a", "/a/b"):
            self.assertEqual(self.error(NotFile, "read", path), (path,))
            self.assertEqual(self.error(NotFile, "put", path, "A"), (path,))

    def test_taken_path(self):
        for path in ("/", "/a", "/a/b", "/a/f", "/g"):
            for text in ("text", "A", None):
                self.assertEqual(self.error(TakenPath, "make", path, text), (path,))
            self.assertEqual(self.error(TakenPath, "folder", path), (path,))
            if path != "/":
                for one in ("/g", "/a", "/e", "/a/b"):
                    self.assertEqual(self.error(TakenPath, "move", one, path), (path,))

    def test_no_text(self):
        for text in NOT_TEXTS + [thing for thing in strange_things()
                                 if not isinstance(thing, str) or thing not in ("", "head")]:
            self.assertEqual(self.error(NoText, "make", "/x", text), ())
            self.assertEqual(self.error(NoText, "put", "/g", text), ())
        full = Store(Disk(2))
        full.folder("/a")
        refused(self, full, NoText, full.make, "/b", "A")
        refused(self, full, NoBlocks, full.make, "/b", "a")
        for text in TEXTS:
            self.store.put("/g", text)
            self.assertEqual(self.store.read("/g"), text)
            self.store.make("/x", text)
            self.assertEqual(self.store.read("/x"), text)
            self.store.drop("/x")

    def test_beneath(self):
        for path, other in (("/a", "/a/x"), ("/a", "/a/b/x"), ("/a/b", "/a/b/x")):
            self.assertEqual(self.error(Beneath, "move", path, other), ())
        self.assertEqual(self.error(TakenPath, "move", "/a", "/a/b"), ("/a/b",))
        self.assertEqual(self.error(NotThere, "move", "/a", "/a/x/y"), ("/a",))
        self.store.move("/a", "/e/a")
        self.assertEqual(self.error(Beneath, "move", "/e", "/e/a/b/x"), ())
        self.store.move("/e/a/b", "/ab")
        self.store.move("/e", "/ab/e")
        self.assertEqual(self.store.entries("/ab/e/a"), ["f"])

    def test_a_move_to_its_own_path(self):
        for path in ("/a", "/a/f", "/g"):
            self.assertEqual(self.error(TakenPath, "move", path, path), (path,))

    def test_not_empty(self):
        self.assertEqual(self.error(NotEmpty, "drop", "/a"), ("/a",))
        self.store.drop("/a/f")
        self.assertEqual(self.error(NotEmpty, "drop", "/a"), ("/a",))
        self.store.drop("/a/b")
        self.store.drop("/a")
        self.assertEqual(self.store.entries("/"), ["e", "g"])

    def test_no_blocks(self):
        for blocks in (2, 3, 6):
            store = Store(Disk(blocks))
            for name in "abcdefgh"[:blocks - 1]:
                store.make("/" + name, name)
            self.assertEqual(store.free(), 0)
            for path in ("/x", "/y"):
                refused(self, store, NoBlocks, store.folder, path)
                refused(self, store, NoBlocks, store.make, path, "")
            refused(self, store, TakenPath, store.folder, "/a")
            store.drop("/a")
            store.folder("/x")
            self.assertEqual((store.free(), store.calms()), (0, 1))


class Small(unittest.TestCase):
    def test_answers(self):
        store = small_store()
        self.assertEqual(store.entries("/"), ["a", "e", "g"])
        self.assertEqual(store.entries("/a"), ["b", "f"])
        self.assertEqual(store.entries("/a/b"), [])
        self.assertEqual([store.kind(path) for path in ("/", "/a", "/g", "/x", "/g/x")],
                         ["folder", "folder", "file", None, None])
        self.assertEqual([store.block_of(path) for path in ("/", "/a", "/a/b", "/a/f", "/e")],
                         [0, 2, 3, 4, 6])
        self.assertEqual((store.read("/a/f"), store.read("/g")), ("text", ""))
        self.assertEqual((store.free(), store.calms()), (3, 1))

    def test_nothing_is_returned_by_deeds(self):
        store = Store(Disk(4))
        self.assertIsNone(store.folder("/a"))
        self.assertIsNone(store.make("/f", "x"))
        self.assertIsNone(store.put("/f", "y"))
        self.assertIsNone(store.move("/f", "/a/f"))
        self.assertIsNone(store.drop("/a/f"))
        self.assertIsNone(store.calm())

    def test_a_moved_folder_has_all_beneath_it(self):
        store = small_store()
        store.move("/a", "/e/deep")
        self.assertEqual(books_of(store), {"/e": None, "/e/deep": None, "/e/deep/b": None,
                                           "/e/deep/f": "text", "/g": ""})
        store.move("/e/deep", "/e/q")
        self.assertEqual(store.read("/e/q/f"), "text")

    def test_lists_are_new(self):
        store = small_store()
        for path in ("/", "/a"):
            first = store.entries(path)
            kept = list(first)
            first.append("x")
            first.reverse()
            self.assertEqual(store.entries(path), kept)

    def test_block_1_is_in_no_folder(self):
        store = Store(Disk(2))
        self.assertEqual((store.entries("/"), store.free()), ([], 1))

    def test_equal_deeds_give_equal_stores(self):
        one, other = small_store(), small_store()
        for store in (one, other):
            store.move("/a/f", "/e/f")
        self.assertEqual(books_of(one), books_of(other))
        self.assertEqual(state_of(one.disk()), state_of(other.disk()))
        self.assertFalse(one == other.disk())

    def test_names_of_all_lengths(self):
        store = Store(Disk(10))
        path = ""
        for many in range(1, 9):
            path += "/" + "abcdefgh"[:many]
            store.folder(path)
        self.assertEqual(store.block_of(path), 9)
        self.assertEqual(store.entries("/a/ab"), ["abc"])


if __name__ == "__main__":
    unittest.main()

"""[12.2]: opening the book of a store: what is made, read, dropped, and BadBook."""

import random
import unittest

from foldervotes.books import Book
from foldervotes.disk import Disk
from foldervotes.errors import BadBook, NoBlocks, NotUnderWay, VoteError
from foldervotes.store import Store
from tests.plain_book import PlainBook, chance_changes, laid_files, texts_of
from tests.plain_disk import state_of
from tests.plain_store import Failed, books_of
from tests.test_books import new_book, text_of
from tests.test_store_calms import chance_deed

TEXTS = {"apple": text_of(81), "b": "", "cat": text_of(40), "zebra": "z"}
FILES = {"apple": ["a", "b", "c"], "b": [], "cat": ["d"], "zebra": ["e"]}
# The parts of "apple d a b c b a cat b d zebra b e".
PARTS = ["f", "g"]


def built(books, blocks=24, calm=True):
    """A store with these files and folders, folders ahead of what is in them."""
    store = Store(Disk(blocks))
    for path, text in books.items():
        if text is None:
            store.folder(path)
        else:
            store.make(path, text)
    if calm:
        store.calm()
    return store


def good_book(changes=()):
    """What lies in a store with a good book; changes has other texts, or what is more."""
    books = {"/book": None}
    books.update({"/book/" + name: text
                  for name, text in laid_files(TEXTS, FILES, PARTS).items()})
    books["/root"] = "f"
    for path, text in dict(changes).items():
        if text == "gone":
            del books[path]
        else:
            books[path] = text
    return books


class Opening(unittest.TestCase):
    def both(self, store, other):
        """Opens a book and a plain one of two stores led alike; the error, or None."""
        calms = store.calms()
        try:
            plain = PlainBook(other)
        except Failed as failed:
            with self.assertRaises(failed.kind) as caught:
                Book(store)
            self.assertIs(type(caught.exception), failed.kind)
            self.assertEqual(tuple(vars(caught.exception).values()), failed.fields)
            plain = None
        else:
            book = Book(store)
            self.assertEqual(texts_of(book), plain.texts)
            self.assertEqual({name: book.files(name) for name in book.names()},
                             {name: plain.files_of(name) for name in plain.names()})
            self.assertEqual(book.commits(), 0)
            self.assertRaises(NotUnderWay, book.step)
        self.assertEqual(state_of(store.disk()), state_of(other.disk()))
        self.assertEqual(books_of(store), books_of(other))
        self.assertEqual(store.calms(), other.calms())
        return (None, store.calms() - calms) if plain else vars(caught.exception).get("path", "")

    def opened(self, books, blocks=24, calm=True):
        """How often a book calms a store with these things, and what is there behind that."""
        store = built(books, blocks, calm)
        found = self.both(store, built(books, blocks, calm))
        self.assertIsInstance(found, tuple, found)
        return found[1], books_of(store)

    def bad(self, books, blocks=24):
        """The path of BadBook."""
        found = self.both(built(books, blocks), built(books, blocks))
        self.assertIsInstance(found, str, found)
        return found


class WhatIsLacking(Opening):
    def test_all(self):
        self.assertEqual(self.opened({}), (1, {"/book": None, "/root": ""}))

    def test_one(self):
        both = {"/book": None, "/root": ""}
        self.assertEqual(self.opened({"/book": None}), (1, both))
        self.assertEqual(self.opened({"/root": ""}), (1, both))
        self.assertEqual(self.opened(both), (0, both))
        self.assertEqual(self.opened({"/root": "", "/book": None}, 3), (0, both))

    def test_an_empty_folder_at_the_root(self):
        both = {"/book": None, "/root": ""}
        # Once ahead of the new file, as the folder had its name, and once at last.
        self.assertEqual(self.opened({"/book": None, "/root": None}), (2, both))
        self.assertEqual(self.opened({"/root": None}), (2, both))
        # The folder gives back the block that the file takes.
        self.assertEqual(self.opened({"/book": None, "/root": None}, 3), (2, both))
        self.assertEqual(self.opened({"/root": None}, 3), (2, both))

    def test_nothing_waits_behind_what_was_made(self):
        for books in ({}, {"/book": None}, {"/root": ""}, {"/root": None}):
            store = built({**books, "/x": "y"})
            store.put("/x", "z")
            Book(store)
            self.assertEqual(store.disk().waiting(), [])
        store = built({"/book": None, "/root": "", "/x": "y"})
        store.put("/x", "z")
        Book(store)
        self.assertEqual(store.disk().waiting(), [(("body", store.block_of("/x")), 1)])

    def test_a_file_at_book(self):
        for root in ({}, {"/root": ""}, {"/root": None}, {"/root": None, "/root/x": ""}):
            books = {"/book": "", **root}
            self.assertEqual(self.bad(books, 6), "/book")
            self.assertEqual(self.bad({**books, "/q": ""}, 2 + len(books)), "/book")

    def test_a_folder_at_the_root_that_is_not_empty(self):
        for books in ({"/root": None, "/root/x": ""}, {"/book": None, "/root": None, "/root/x": None}):
            self.assertEqual(self.bad(books), "/root")
            # Ahead of NoBlocks.
            self.assertEqual(self.bad(books, 1 + len(books)), "/root")

    def test_no_blocks(self):
        for books, blocks in (({}, 2), ({"/x": ""}, 3), ({"/x": "", "/y": ""}, 3),
                              ({"/book": None, "/x": ""}, 3), ({"/root": "", "/x": ""}, 3),
                              ({"/root": None, "/x": None}, 3), ({"/root": ""}, 2)):
            store = built(books, blocks)
            before = state_of(store.disk()), store.calms()
            self.assertRaises(NoBlocks, Book, store)
            self.assertEqual((state_of(store.disk()), store.calms()), before)
            self.both(built(books, blocks), built(books, blocks))
        for books, blocks in (({}, 3), ({"/x": ""}, 4), ({"/book": None, "/x": ""}, 4),
                              ({"/root": "", "/x": ""}, 4), ({"/root": None, "/x": None}, 4)):
            self.opened(books, blocks)

    def test_other_paths_are_left_alone(self):
        others = {"/a": None, "/a/book": None, "/a/root": "x", "/books": "y", "/boo": None}
        self.assertEqual(self.opened(others)[1], {**others, "/book": None, "/root": ""})
        found = self.opened({**good_book(), **others})
        self.assertEqual(found, (0, {**good_book(), **others}))


class Reading(Opening):
    def test_a_good_book(self):
        self.assertEqual(self.opened(good_book()), (0, good_book()))
        self.assertEqual(texts_of(Book(built(good_book()))), TEXTS)
        self.assertEqual(len(good_book()["/book/f"]), 33)

    def test_the_root_is_no_name(self):
        for text in (" ", "f ", " f", "f g", "abcdefghi", "f" * 40, "  "):
            self.assertEqual(self.bad(good_book({"/root": text})), "/root")
        self.assertEqual(self.bad(good_book({"/root": "f ", "/book/f": "gone"})), "/root")

    def test_no_text_at_all(self):
        calms, books = self.opened(good_book({"/root": ""}))
        self.assertEqual((calms, books), (0, {"/book": None, "/root": ""}))

    def test_no_file_of_a_part(self):
        self.assertEqual(self.bad(good_book({"/root": "h"})), "/book/h")
        self.assertEqual(self.bad(good_book({"/book/f": "gone"})), "/book/f")
        self.assertEqual(self.bad(good_book({"/book/g": "gone"})), "/book/g")
        self.assertEqual(self.bad(good_book({"/book/f": None})), "/book/f")
        self.assertEqual(self.bad(good_book({"/book/g": None, "/book/g/x": ""})), "/book/g")
        self.assertEqual(self.bad(good_book({"/root": "abcdefgh"})), "/book/abcdefgh")
        # Ahead of what is wrong with pieces and other things.
        self.assertEqual(self.bad(good_book({"/book/g": "gone", "/book/a": "gone"})), "/book/g")

    def test_a_part_that_was_told_ahead(self):
        index = good_book()["/book/f"][2:]
        self.assertEqual(self.bad(good_book({"/book/g": "f " + index})), "/book/f")
        more = {"/book/g": "h " + index, "/book/h": "g " + index}
        self.assertEqual(self.bad(good_book(more)), "/book/g")
        more = {"/book/g": "h " + index, "/book/h": "f " + index}
        self.assertEqual(self.bad(good_book(more)), "/book/f")

    def test_texts_that_are_no_part(self):
        last = good_book()["/book/g"]
        for text in ("", "g", "g ", " g", "  ", "gx", "g" + last, "abcdefghi x", " " + last,
                     "g " + "x" * 32, "f " + "x" * 30, "h " + "x" * 30, "h x", "h " + "x" * 32,
                     "h", "h ", last[2:], "x" * 40, " " * 40, " " + "x" * 31,
                     " " + last[2:], "abcdefghi " + "x" * 30):
            self.assertEqual(self.bad(good_book({"/book/g": text})), "/book/g", text)
        for text in ("", "f", "f ", "g ", "g x", "g " + "x" * 30, "g " + "x" * 32, "x" * 40,
                     " " + "x" * 31):
            self.assertEqual(self.bad(good_book({"/book/f": text})), "/book/f", text)
        # The next one would be told, but this is no part.
        self.assertEqual(self.bad(good_book({"/book/f": "h x", "/book/g": "gone"})), "/book/f")

    def with_index(self, index, more=()):
        """A book with this index, in parts y and z or y alone."""
        books = {"/book": None, "/root": "y"}
        if len(index) > 31:
            books["/book/y"], books["/book/z"] = "z " + index[:31], "z " + index[31:]
        else:
            books["/book/y"] = "y " + index
        books.update(dict(more))
        return books

    def test_no_index(self):
        for index in (" ", "x", "x ", " x a", "x a ", "x  a", "x b", "x a b", "x b a b", "x l",
                      "x aa", "x ab", "x bc a", "x z", "abcdefghi a", "x b abcdefghi", "x a x a", "y a x a",
                      "x a  y a", "x c a", "x c a b y", "x k a b c d e f g h i", "aa a a a",
                      "x b  a", "x a y a w a"):
            self.assertEqual(self.bad(self.with_index(index)), "/root", index)
        self.assertEqual(self.bad(self.with_index("x b a b", {"/book/a": None, "/book/a/x": ""})),
                         "/root")
        for index in ("x a", "a a aa a b a", "abcdefgh a"):
            self.assertEqual(self.opened(self.with_index(index))[0], 0)

    def test_a_file_named_twice(self):
        more = {"/book/a": "a" * 40, "/book/b": "b"}
        for index in ("x c a a", "x b a y b a", "x b y", "x c a y", "x c b b y a", "v b y w b y"):
            self.assertEqual(self.bad(self.with_index(index, more)), "/root", index)
        index = "abcdefgh a abcdefgi a x d a b z"
        self.assertEqual(len(index), 31)
        self.assertEqual(self.opened(self.with_index(index, {
            **more, "/book/b": "b" * 40, "/book/z": "z"}))[0], 0)
        self.assertEqual(self.bad(self.with_index("abcdefgh a abcdefgi a xx c a z", more)),
                         "/book/z")
        self.assertEqual(self.bad(self.with_index("abcdefgh a abcdefgi a xxxx c a z", more)),
                         "/root")

    def test_pieces(self):
        for name in "abcde":
            self.assertEqual(self.bad(good_book({"/book/" + name: "gone"})), "/book/" + name)
            self.assertEqual(self.bad(good_book({"/book/" + name: None})), "/book/" + name)
            self.assertEqual(self.bad(good_book({"/book/" + name: ""})), "/book/" + name)
        for name in "ab":
            for text in ("x", "x" * 39):
                self.assertEqual(self.bad(good_book({"/book/" + name: text})), "/book/" + name)
        for name in "cde":
            for text in ("x", "x" * 39, "x" * 40, " "):
                self.opened(good_book({"/book/" + name: text}))
        # The first one, as the index has them.
        self.assertEqual(self.bad(good_book({"/book/e": "", "/book/b": "", "/book/d": ""})),
                         "/book/b")
        index = "q b d r b a"
        books = self.with_index(index, {"/book/a": "", "/book/d": ""})
        self.assertEqual(self.bad(books), "/book/d")

    def test_folders_with_something_in_them(self):
        more = {"/book/q": None, "/book/q/x": "", "/book/m": None, "/book/m/x": None,
                "/book/h": None, "/book/i": "text"}
        self.assertEqual(self.bad(good_book(more)), "/book/m")
        self.assertEqual(self.bad(good_book({**more, "/book/e": ""})), "/book/e")
        # Nothing is dropped then.
        store = built(good_book(more))
        self.assertRaises(BadBook, Book, store)
        self.assertEqual(books_of(store), good_book(more))
        self.assertEqual(self.bad({"/book": None, "/book/a": None, "/book/a/b": ""}), "/book/a")

    def test_what_was_made_stays_behind_bad_books(self):
        store = built({"/book": None, "/book/a": None, "/book/a/b": ""})
        self.assertRaises(BadBook, Book, store)
        self.assertEqual(books_of(store)["/root"], "")
        self.assertEqual(store.calms(), 2)
        store = built({"/root": "x"})
        self.assertRaises(BadBook, Book, store)
        self.assertEqual(books_of(store), {"/book": None, "/root": "x"})

    def test_other_things_are_dropped(self):
        more = {"/book/h": "", "/book/i": None, "/book/aa": "x", "/book/abcdefgh": None}
        calms, books = self.opened(good_book(more))
        self.assertEqual((calms, books), (0, good_book()))
        store = built(good_book(more))
        Book(store)
        self.assertEqual([many for _, many in store.disk().waiting()], [1] * len(
            store.disk().waiting()))
        blocks = {key[1] for key, _ in store.disk().waiting() if key[0] == "up"}
        self.assertEqual(len(blocks), 4)

    def test_errors_in_their_order(self):
        wrong = {"/root": "f", "/book/q": None, "/book/q/x": "", "/book/e": "", "/book/g": "g x b a"}
        self.assertEqual(self.bad(good_book({**wrong, "/book/f": "gone"})), "/book/f")
        self.assertEqual(self.bad(good_book({**wrong, "/root": "a a"})), "/root")
        self.assertEqual(self.bad(good_book(wrong)), "/root")
        del wrong["/book/g"]
        self.assertEqual(self.bad(good_book(wrong)), "/book/e")
        del wrong["/book/e"]
        self.assertEqual(self.bad(good_book(wrong)), "/book/q")


class ByChance(Opening):
    def spoil(self, chance, store):
        """Some deed in the book of a store, by a store's method; gives it."""
        paths = [path for path in books_of(store) if path.startswith(("/book/", "/root"))]
        path = chance.choice(paths + ["/book/" + chance.choice("abcdxyz")])
        text = chance.choice(["", "a", "b", "f", "a b", "c x a", "a x b a", "x" * 40, "y" * 31])
        return chance.choice([("put", path, text), ("make", path, text), ("folder", path),
                              ("drop", path), ("make", path + "/x", ""),
                              ("move", path, "/book/" + chance.choice("abcxyz"))])

    def test_books_that_are_spoilt(self):
        found = []
        for seed in range(250):
            chance = random.Random(seed)
            one, other = new_book(16), new_book(16)
            for _ in range(chance.randint(1, 3)):
                changes = chance_changes(chance, texts_of(one))
                if one.needs(changes) <= one.store().free():
                    one.commit(changes)
                    other.commit(changes)
            for _ in range(chance.choice([0, 1, 1, 2, 3])):
                row = self.spoil(chance, one.store())
                for store in (one.store(), other.store()):
                    try:
                        getattr(store, row[0])(*row[1:])
                    except VoteError:
                        pass
            result = self.both(one.store(), other.store())
            found.append(result if isinstance(result, str) else "good")
        self.assertGreater(found.count("good"), 30)
        self.assertGreater(found.count("/root"), 5)
        self.assertGreater(len([path for path in found if path.startswith("/book/")]), 20)

    def test_opened_anew_at_any_time(self):
        for seed in range(20):
            chance = random.Random(seed)
            one, other = new_book(20), new_book(20)
            kept = {}
            for _ in range(6):
                changes = chance_changes(chance, kept)
                needed = one.needs(changes)
                if needed > one.store().free():
                    continue
                many = one.begin(changes)
                other.begin(changes)
                done = chance.randint(0, many)
                for _ in range(done):
                    one.step()
                    other.step()
                # Behind the files come a calm and the root.
                if many and done >= needed + 2:
                    kept = {name: text for name, text in {**kept, **changes}.items()
                            if text is not None}
                self.both(one.store(), other.store())
                one, other = Book(one.store()), Book(other.store())
                self.assertEqual(texts_of(one), kept)

    def test_beside_other_things(self):
        for seed in range(10):
            chance = random.Random(seed)
            store, other = Store(Disk(20)), Store(Disk(20))
            for _ in range(15):
                row = chance_deed(chance, store, books_of(store))
                if row:
                    getattr(other, row[0])(*row[1:])
            self.both(store, other)


if __name__ == "__main__":
    unittest.main()

"""[12.1], [12.3]: how texts lie in files, and commits; with [0.3], [0.4] for them."""

import random
import unittest

from foldervotes.books import Book
from foldervotes.disk import Disk
from foldervotes.errors import (NoBlocks, NoChanges, NotKept, NotUnderWay, UnderWay)
from foldervotes.store import Store
from tests.plain_book import (FILE_NAMES, PlainBook, chance_changes, cut_by, files_of_index,
                              index_of, laid_files, texts_of)
from tests.plain_disk import state_of
from tests.plain_store import Failed, books_of
from tests.things import HUGE, nested, refused, strange_things


def new_book(blocks=40):
    return Book(Store(Disk(blocks)))


def files_in(book):
    """What lies in the book's folder, by names."""
    return {path[len("/book/"):]: text for path, text in books_of(book.store()).items()
            if path.startswith("/book/")}


def root_of(book):
    return book.store().read("/root")


def text_of(many, begin=0):
    """A text of so many signs, no two pieces of which are alike."""
    letters = "abcdefghijklmnopqrs tuvwxyz"
    return "".join(letters[(begin + at + at // 27) % 27] for at in range(many))


class Files(unittest.TestCase):
    """What lies in /book and at /root, file by file."""

    def test_a_new_book(self):
        book = new_book(3)
        self.assertEqual(books_of(book.store()), {"/book": None, "/root": ""})
        self.assertEqual((book.names(), book.store().free(), book.store().calms()), ([], 0, 1))
        self.assertEqual(book.store().disk().waiting(), [])

    def test_pieces_by_their_lengths(self):
        for many, pieces in ((0, []), (1, [1]), (39, [39]), (40, [40]), (41, [40, 1]),
                             (80, [40, 40]), (81, [40, 40, 1]), (400, [40] * 10)):
            book = new_book()
            text = text_of(many)
            made = len(pieces) + 1
            self.assertEqual(book.commit({"x": text}), made)
            names = FILE_NAMES[:made]
            files = files_in(book)
            self.assertEqual(sorted(files), sorted(names))
            self.assertEqual(root_of(book), names[-1])
            self.assertEqual([len(files[name]) for name in names[:-1]], pieces)
            self.assertEqual("".join(files[name] for name in names[:-1]), text)
            self.assertEqual(book.files("x"), ["/book/" + name for name in names[:-1]])
            index = " ".join(["x", "abcdefghijk"[len(pieces)], *names[:-1]])
            self.assertEqual(files[names[-1]], names[-1] + " " + index)
            self.assertEqual(book.text("x"), text)

    def test_several_texts_and_parts(self):
        book = new_book()
        texts = {"zebra": text_of(81), "apple": text_of(100), "m": "", "abcdefgh": text_of(40),
                 "monkey": text_of(1)}
        self.assertEqual(book.commit(texts), 1 + 3 + 1 + 3 + 2)
        index = "abcdefgh b a apple d b c d m a monkey b e zebra d f g h"
        self.assertEqual(len(index), 55)
        expected = laid_files(texts, {"abcdefgh": ["a"], "apple": ["b", "c", "d"], "m": [],
                                      "monkey": ["e"], "zebra": ["f", "g", "h"]}, ["i", "j"])
        self.assertEqual(files_in(book), expected)
        self.assertEqual(expected["i"], "j " + index[:31])
        self.assertEqual(expected["j"], "j " + index[31:])
        self.assertEqual(root_of(book), "i")
        self.assertEqual(texts_of(book), texts)

    def test_indexes_of_just_31_and_62_signs(self):
        found = set()
        for count in range(1, 8):
            for last in range(1, 9):
                texts = {"abcdefg" + "bcdefghi"[at]: "" for at in range(count)}
                texts["z" * last] = ""
                index = index_of({name: [] for name in texts})
                if len(index) in (30, 31, 32, 61, 62, 63):
                    found.add(len(index))
                    self.check_parts(texts, index)
        # With pieces, too.
        for last in range(1, 9):
            texts = {"abcdefgh": text_of(80), "y" * last: text_of(41), "zz": ""}
            book = new_book()
            book.commit(texts)
            index = index_of({"abcdefgh": ["a", "b"], "y" * last: ["c", "d"], "zz": []})
            found.add(len(index))
            self.assertEqual(len(files_in(book)), 4 + len(cut_by(index, 31)))
        self.assertLessEqual({31, 32, 62}, found)

    def check_parts(self, texts, index):
        book = new_book()
        parts = -(-len(index) // 31)
        self.assertEqual(book.commit(texts), parts)
        names = FILE_NAMES[:parts]
        self.assertEqual(files_in(book), {
            name: FILE_NAMES[min(at + 1, parts - 1)] + " " + index[31 * at:31 * at + 31]
            for at, name in enumerate(names)})
        self.assertEqual(texts_of(Book(book.store())), texts)

    def test_parts_that_begin_or_end_with_a_blank(self):
        begins = ends = False
        for last in range(1, 9):
            texts = {"abcdefgh": "", "abcdefgi": "", "n" * last: "", "o": "", "p": "x", "q": ""}
            book = new_book()
            book.commit(texts)
            parts = cut_by(index_of({**{name: [] for name in texts}, "p": ["a"]}), 31)
            files = files_in(book)
            self.assertEqual([files[name].split(" ", 1)[1] for name in FILE_NAMES[1:][:len(parts)]],
                             parts)
            begins = begins or any(part.startswith(" ") for part in parts)
            ends = ends or any(part.endswith(" ") for part in parts)
            self.assertEqual(texts_of(Book(Store(book.store().disk()))), texts)
        self.assertTrue(begins and ends)

    def test_texts_of_blanks(self):
        book = new_book()
        texts = {"x": " " * 400, "y": " ", "z": "  a  "}
        book.commit(texts)
        self.assertEqual(texts_of(book), texts)
        self.assertEqual(texts_of(Book(book.store())), texts)

    def test_the_least_names_that_nothing_there_had(self):
        book = new_book()
        book.commit({"x": text_of(41)})
        self.assertEqual((book.files("x"), root_of(book)), (["/book/a", "/book/b"], "c"))
        book.commit({"y": "t"})
        # Those of the elder part may not be had by a new one.
        self.assertEqual((book.files("y"), root_of(book)), (["/book/d"], "e"))
        self.assertEqual(sorted(files_in(book)), ["a", "b", "d", "e"])
        book.commit({"x": "new"})
        self.assertEqual((book.files("x"), root_of(book)), (["/book/c"], "f"))
        self.assertEqual(sorted(files_in(book)), ["c", "d", "f"])

    def test_names_beyond_z(self):
        book = new_book()
        book.commit({"x": text_of(400), "y": text_of(390)})
        self.assertEqual(book.commit({"z": text_of(240)}), 9)
        # 20 pieces and 2 parts were there.
        self.assertEqual(FILE_NAMES[22:29], ["w", "x", "y", "z", "aa", "ab", "ac"])
        self.assertEqual(book.files("z"), ["/book/" + name for name in FILE_NAMES[22:28]])
        self.assertEqual(root_of(book), "ac")
        self.assertEqual(texts_of(Book(book.store())), texts_of(book))
        store = book.store()
        book.commit({"x": None, "y": None})
        self.assertEqual(root_of(book), "u")
        self.assertEqual(sorted(files_in(book)), sorted(["u", *FILE_NAMES[22:28]]))
        self.assertEqual(store.free(), 37 - 7)

    def test_no_text_any_more(self):
        book = new_book(8)
        book.commit({"x": "text", "y": ""})
        self.assertEqual(book.begin({"x": None, "y": None}), 3 + 2)
        while book.step():
            pass
        self.assertEqual(books_of(book.store()), {"/book": None, "/root": ""})
        self.assertEqual((book.names(), book.commits()), ([], 2))


class Commits(unittest.TestCase):
    def begun(self):
        book = new_book(12)
        book.commit({"x": text_of(41), "y": "why"})
        return book

    def test_step_by_step(self):
        book = self.begun()
        store = book.store()
        calms, elder = store.calms(), texts_of(book)
        self.assertEqual(book.needs({"x": "new", "z": ""}), 2)
        self.assertEqual(book.begin({"x": "new", "z": ""}), 2 + 3 + 3)
        seen = []
        for left in range(7, -1, -1):
            self.assertEqual(book.step(), left)
            seen.append((sorted(files_in(book)), root_of(book), store.calms() - calms,
                         texts_of(book) == elder, book.commits()))
        # x had a and b, y c, and the part d; f has the new part.
        self.assertEqual(seen, [
            (["a", "b", "c", "d", "e"], "d", 0, True, 1),
            (["a", "b", "c", "d", "e", "f"], "d", 0, True, 1),
            (["a", "b", "c", "d", "e", "f"], "d", 1, True, 1),
            (["a", "b", "c", "d", "e", "f"], "f", 1, True, 1),
            (["a", "b", "c", "d", "e", "f"], "f", 2, False, 2),
            (["b", "c", "d", "e", "f"], "f", 2, False, 2),
            (["c", "d", "e", "f"], "f", 2, False, 2),
            (["c", "e", "f"], "f", 2, False, 2)])
        self.assertEqual(texts_of(book), {"x": "new", "y": "why", "z": ""})
        self.assertEqual(book.files("x"), ["/book/e"])
        refused(self, book, NotUnderWay, book.step)

    def test_what_is_told_until_the_second_calm(self):
        book = self.begun()
        files = {name: book.files(name) for name in "xy"}
        many = book.begin({"x": None, "z": "z"})
        for _ in range(2 + 2):
            book.step()
            self.assertEqual(texts_of(book), {"x": text_of(41), "y": "why"})
            self.assertEqual({name: book.files(name) for name in "xy"}, files)
            refused(self, book, NotKept, book.text, "z")
        book.step()
        self.assertEqual(texts_of(book), {"y": "why", "z": "z"})
        refused(self, book, NotKept, book.files, "x")
        self.assertEqual(book.step(), many - 6)

    def test_nothing_to_commit(self):
        book = self.begun()
        before = state_of(book.store().disk())
        for changes in ({}, {"x": text_of(41)}, {"y": "why", "x": text_of(41)}):
            self.assertEqual((book.needs(changes), book.begin(changes), book.commit(changes)),
                             (0, 0, 0))
            refused(self, book, NotUnderWay, book.step)
        self.assertEqual(state_of(book.store().disk()), before)
        self.assertEqual((book.commits(), book.store().calms()), (1, 3))

    def test_a_text_that_is_put_as_it_was(self):
        book = self.begun()
        files = book.files("x")
        self.assertEqual(book.commit({"x": text_of(41), "y": "other"}), 2)
        self.assertEqual(book.files("x"), files)
        self.assertEqual(texts_of(book), {"x": text_of(41), "y": "other"})

    def test_all_pieces_of_a_text_that_changes_are_made(self):
        book = new_book()
        book.commit({"x": text_of(120)})
        elder = book.files("x")
        self.assertEqual(book.commit({"x": text_of(120) + "more"}), 5)
        self.assertFalse(set(elder) & set(book.files("x")))

    def test_under_way(self):
        book = self.begun()
        many = book.begin({"z": "z"})
        for left in range(many - 1, -1, -1):
            for changes in ({}, {"z": "z"}, {"x": None}, None, {"A": 1}, [1]):
                for call in (book.needs, book.begin, book.commit):
                    refused(self, book, UnderWay, call, changes)
            self.assertEqual(book.step(), left)
        self.assertEqual(book.needs({"z": "z"}), 0)

    def test_no_changes(self):
        book = self.begun()
        wrong = [thing for thing in strange_things() if thing != {}]
        wrong += [0, 1, HUGE, "x", [("x", "text")], (("x", "text"),)]
        for name in ("", "A", "a1", "abcdefghi", "a b", " ", "x\n", "/x", 1, None, b"x", ("x",),
                     (1, 2), HUGE, 0, 3, nested(lambda x: (x,), "x")):
            for text in ("text", "", None):
                wrong.append({name: text})
                wrong.append({"x": "text", name: text})
        for text in ("A", "a" * 401, "a.", "a\n", "1", 1, 0, True, False, [], ["text"], ("text",),
                     b"text", {}, Disk(2), nested(lambda x: [x], "text"), HUGE):
            wrong.append({"x": text})
            wrong.append({"y": "fine", "new": text})
        wrong += [{"z": None}, {"x": None, "z": None}, {"q": "text", "z": None}]
        for changes in wrong:
            for call in (book.needs, book.begin, book.commit):
                refused(self, book, NoChanges, call, changes)
        refused(self, book, NotUnderWay, book.step)

    def test_texts_of_up_to_400_signs(self):
        book = new_book()
        self.assertEqual(book.commit({"x": "a" * 400}), 11)
        self.assertEqual(book.text("x"), "a" * 400)
        refused(self, book, NoChanges, book.begin, {"x": "a" * 401})

    def test_not_kept(self):
        book = self.begun()
        for name in strange_things() + ["", "z", "X", "x ", "xx", "/x", 0, 1, ("x",), ["x"], b"x",
                                        "book", "a" * 9, HUGE]:
            for call in (book.text, book.files):
                self.assertIs(refused(self, book, NotKept, call, name).name, name)

    def test_no_blocks(self):
        for blocks in (4, 6, 9):
            for many in range(0, 401, 20):
                book = new_book(blocks)
                free = book.store().free()
                needed = book.needs({"x": text_of(many)})
                self.assertEqual(needed, -(-many // 40) + 1)
                if needed > free:
                    for call in (book.begin, book.commit):
                        refused(self, book, NoBlocks, call, {"x": text_of(many)})
                    refused(self, book, NoChanges, book.begin, {"x": text_of(many), "y": 1})
                else:
                    self.assertEqual(book.commit({"x": text_of(many)}), needed)
                    self.assertEqual(book.store().free(), free - needed)
        # Nothing is needed to drop all texts, but a part of the index to keep one.
        book = new_book(5)
        book.commit({"x": "text"})
        self.assertEqual((book.store().free(), book.needs({"x": ""})), (0, 1))
        refused(self, book, NoBlocks, book.begin, {"x": ""})
        self.assertEqual(book.commit({"x": None}), 0)
        self.assertEqual(book.store().free(), 2)

    def test_commits(self):
        book = new_book(10)
        for many in range(5):
            self.assertEqual(book.commits(), many)
            book.begin({"x": "abcde"[many]})
            while book.step():
                pass
        self.assertEqual(Book(book.store()).commits(), 0)

    def test_what_is_passed_and_returned_is_apart(self):
        book = self.begun()
        changes = {"z": "zet", "x": None}
        book.begin(changes)
        self.assertEqual(changes, {"z": "zet", "x": None})
        changes["z"], changes["q"] = "other", "q"
        del changes["x"]
        while book.step():
            pass
        self.assertEqual(texts_of(book), {"y": "why", "z": "zet"})
        for call in (book.names, lambda: book.files("z")):
            first = call()
            kept = list(first)
            first.append("x")
            self.assertEqual(call(), kept)
        self.assertIsInstance(book.store(), Store)
        self.assertIs(book.store(), book.store())

    def test_other_paths_may_be_led_beside(self):
        book = new_book(12)
        store = book.store()
        store.folder("/a")
        store.make("/a/f", "mine")
        book.commit({"x": text_of(50)})
        store.move("/a/f", "/f")
        book.commit({"x": None, "y": "y"})
        self.assertEqual((store.read("/f"), store.entries("/")), ("mine", ["a", "book", "f",
                                                                         "root"]))


class LongRows(unittest.TestCase):
    """Commits by chance, beside a plain account over a store led alike."""

    def both(self, book, plain, method, *args):
        """What a method of both tells: the same; or the same error."""
        try:
            expected = getattr(plain, {"files": "files_of"}.get(method, method))(*args)
        except Failed as failed:
            error = refused(self, book, failed.kind, getattr(book, method), *args)
            self.assertEqual(tuple(vars(error).values()), failed.fields)
            return failed.kind.__name__
        self.assertEqual(getattr(book, method)(*args), expected)
        return method

    def check(self, book, plain):
        self.assertEqual(state_of(book.store().disk()), state_of(plain.store.disk()))
        self.assertEqual(texts_of(book), plain.texts)
        self.assertEqual({name: book.files(name) for name in book.names()},
                         {name: plain.files_of(name) for name in plain.names()})
        self.assertEqual((book.commits(), book.store().calms()),
                         (plain.commits(), plain.store.calms()))

    def test_rows(self):
        done = set()
        for seed in range(25):
            chance = random.Random(seed)
            blocks = [5, 9, 16, 40][seed % 4]
            book, plain = new_book(blocks), PlainBook(Store(Disk(blocks)))
            for _ in range(60):
                changes = chance_changes(chance, plain.texts)
                if chance.random() < 0.05:
                    changes = chance.choice([None, {"A": "a"}, {"x": 1}, [], {"nokept": None}])
                method, *args = chance.choice([
                    ("needs", changes), ("begin", changes), ("commit", changes), ("step",),
                    ("step",), ("step",), ("names",), ("text", chance.choice("xyzq")),
                    ("files", chance.choice("xyzq")), ("commits",)])
                done.add(self.both(book, plain, method, *args))
                if method == "begin" and chance.random() < 0.5:
                    while plain.steps:
                        self.both(book, plain, "step")
                if chance.random() < 0.05:
                    # Opened anew, also amid a commit.
                    book, plain = Book(book.store()), PlainBook(plain.store)
                self.check(book, plain)
        self.assertLessEqual({"needs", "begin", "commit", "step", "names", "text", "files",
                              "commits", "UnderWay", "NoChanges", "NoBlocks", "NotUnderWay",
                              "NotKept"}, done)

    def test_equal_calls(self):
        found = []
        for _ in range(2):
            chance = random.Random(3)
            book = new_book(20)
            for _ in range(10):
                changes = chance_changes(chance, texts_of(book))
                if book.needs(changes) <= book.store().free():
                    book.commit(changes)
            found.append((texts_of(book), state_of(book.store().disk())))
        self.assertEqual(found[0], found[1])

    def test_the_plain_account_reads_indexes(self):
        self.assertEqual(files_of_index("x a"), {"x": []})
        self.assertEqual(files_of_index("x b a y c b c"), {"x": ["a"], "y": ["b", "c"]})
        for index in ("", "x", "x ", " x a", "x  a", "x b", "x l", "y a x a", "x a x a", "x a y"):
            self.assertIsNone(files_of_index(index))


if __name__ == "__main__":
    unittest.main()

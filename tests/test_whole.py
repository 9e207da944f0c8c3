"""The whole program taken together: one life led in several ways, and great disks."""

import itertools
import random
import time
import unittest

from foldervotes.books import Book
from foldervotes.checker import Checker
from foldervotes.desk import Desk, book_tale, texts_told
from foldervotes.disk import Disk
from foldervotes.errors import BadBook, VoteError
from foldervotes.histories import History
from foldervotes.mount import mounted, salvaged
from foldervotes.pictures import seen
from foldervotes.shell import Shell
from foldervotes.store import Store
from foldervotes.tales import read_tale, tale, tale_text
from foldervotes.trees import Tree
from foldervotes.words import words_of
from tests.plain_book import PlainBook, chance_changes, texts_of
from tests.plain_disk import PlainDisk, check_same, some_reached, state_of, words_on
from tests.plain_shell import NUMBER, FORMS, PlainShell, answer, chance_line
from tests.plain_store import PlainStore, books_of
from tests.test_books import text_of
from tests.test_store_calms import chance_deed


class OneLife(unittest.TestCase):
    """What is told is the same, whatever leads."""

    def test_shell_tale_and_methods(self):
        for seed in range(20):
            chance = random.Random(seed)
            store, plain = Store(Disk(8)), PlainStore(PlainDisk(8))
            lines, told = [], []
            for _ in range(60):
                row = chance_deed(chance, store, books_of(store))
                if row is None:
                    continue
                getattr(plain, row[0])(*row[1:])
                lines.append(" ".join(row))
                told.append("ok")
                if chance.random() < 0.2:
                    lines.append("calms")
                    told.append(str(store.calms()))
                if chance.random() < 0.2:
                    path = chance.choice(["/", *books_of(store)])
                    kind = store.kind(path)
                    lines.append(("list " if kind == "folder" else "read ") + path)
                    told.append(store.read(path) if kind == "file"
                                else " ".join(store.entries(path)) or "none")
            self.assertEqual(tale(8, lines), told)
            self.assertEqual(tale(8, read_tale(tale_text(lines))), told)
            shell = Shell(8)
            self.assertEqual([shell.tell(line) for line in lines], told)
            self.assertEqual(state_of(shell.disk), state_of(store.disk()))
            check_same(self, store.disk(), plain.disk)

    def test_desk_tale_and_methods(self):
        for seed in range(12):
            chance = random.Random(seed)
            book, desk, lines = Book(Store(Disk(20))), Desk(20), []
            plain = PlainBook(Store(Disk(20)))
            for _ in range(12):
                changes = chance_changes(chance, texts_of(book))
                if book.needs(changes) > book.store().free():
                    continue
                row = [f"drop {name}" if text is None else f"set {name} {text}"
                       for name, text in changes.items()] + ["commit"]
                many = book.commit(changes)
                plain.commit(changes)
                self.assertEqual([desk.tell(line) for line in row],
                                 ["ok"] * (len(row) - 1) + [str(many)])
                lines.extend(row)
            self.assertEqual(state_of(desk.disk), state_of(book.store().disk()))
            self.assertEqual(state_of(desk.disk), state_of(plain.store.disk()))
            self.assertEqual(texts_told(20, lines), texts_of(book))
            self.assertEqual(book_tale(20, [*lines, "names"])[-1],
                             " ".join(book.names()) or "none")

    def test_lines_of_a_book_by_a_shell(self):
        """A book that a shell's lines lay is the one that a desk makes."""
        desk = Desk(12)
        for line in ("set x " + text_of(50), "set y why", "commit"):
            desk.tell(line)
        shell = Shell(12)
        for path, text in books_of(desk.book.store()).items():
            shell.tell(f"folder {path}" if text is None else f"make {path} {text}")
        shell.tell("calm")
        self.assertEqual(texts_of(Book(Store(shell.disk.copy()))), texts_of(desk.book))
        shell.tell("drop /book/a")
        shell.tell("calm")
        with self.assertRaises(BadBook) as caught:
            Book(Store(shell.disk))
        self.assertEqual(caught.exception.path, "/book/a")

    def test_copies_of_a_disk_lead_unlike_lives(self):
        shell = Shell(6)
        for line in ("folder /a", "make /a/f text", "reach 3"):
            shell.tell(line)
        one, other = shell.disk.copy(), shell.disk.copy()
        one.calm()
        other.cut()
        self.assertEqual(books_of(Store(one)), {"/a": None, "/a/f": "text"})
        self.assertNotEqual(words_on(one), words_on(other))
        self.assertEqual(shell.tell("waits"), "4")

    def test_a_checker_beside_a_book(self):
        chance = random.Random(2)
        book = Book(Store(Disk(16)))
        checker = Checker(book.store())
        for _ in range(15):
            changes = chance_changes(chance, texts_of(book))
            if book.needs(changes) > book.store().free():
                continue
            for _ in range(book.begin(changes)):
                key = chance.choice(book.store().disk().all_keys())
                book.store().disk().lose(key)
                checker.round()
                book.step()
        checker.round()
        book.store().calm()
        self.assertEqual(texts_of(Book(Store(book.store().disk()))), texts_of(book))
        self.assertEqual(checker.round(), [])


class Forty(unittest.TestCase):
    """Disks of forty blocks with long texts, in a moment."""

    def test_long_texts(self):
        begun = time.monotonic()
        desk = Desk(40)
        texts = {"x": text_of(400), "y": text_of(400, 5), "z": text_of(360, 9)}
        for name, text in texts.items():
            desk.tell(f"set {name} {text}")
        self.assertEqual(desk.tell("commit"), str(29 + 3))
        self.assertEqual(texts_of(desk.book), texts)
        desk.tell("drop z")
        desk.tell("commit")
        desk.tell("set w " + text_of(399))
        self.assertEqual(desk.tell("needs"), str(10 + 3))
        desk.tell("begin")
        for number in range(30):
            answer(desk, "step")
            desk.tell(f"reach {number}")
        desk.tell("cut")
        self.assertEqual(sorted(texts_of(desk.book)), ["w", "x", "y"])
        self.assertLess(time.monotonic() - begun, 20)

    def test_a_long_tale(self):
        begun = time.monotonic()
        chance = random.Random(4)
        shell, lines = PlainShell(40), []
        for _ in range(400):
            lines.append(chance_line(chance, shell.store))
            answer(shell, lines[-1])
        self.assertEqual(len(tale(40, lines)), 400)
        self.assertLess(time.monotonic() - begun, 30)

    def test_a_disk_in_ruins(self):
        begun = time.monotonic()
        chance = random.Random(6)
        shell = Shell(40)
        for at in range(39):
            shell.tell("folder " + "/d" * (at + 1))
        shell.tell("calm")
        keys = shell.disk.all_keys()
        for number in chance.sample(range(len(keys)), 600):
            shell.tell(f"{chance.choice(['lose', 'spoil'])} {number}")
        found = salvaged(shell.disk)
        told = answer(shell, "cut")
        self.assertIn(told if told == "ok" else told[0], ("ok", "RingTold", "NameTwice", "BadBody"))
        if told != "ok":
            # All that hung beneath block 1 hangs under it now.
            for place, elder in zip(mounted(shell.disk)[0].hung, found[0].hung):
                self.assertIn(place, (elder, 1))
        self.assertEqual(shell.tell("check"), "0")
        self.assertLess(time.monotonic() - begun, 10)


class Apart(unittest.TestCase):
    def test_objects_of_unlike_classes_are_not_equal(self):
        tree = Tree((0, 1))
        store = Store(Disk(3))
        made = [tree, seen(tree, (1, 1), ()), words_of(tree), History(tree, ()), Disk(3), store,
                Checker(store), Book(Store(Disk(3))), Shell(3), Desk(3), VoteError(), 0, "", None]
        for one, other in itertools.permutations(made, 2):
            self.assertFalse(one == other)
            self.assertTrue(one != other)

    def test_equal_calls_of_everything(self):
        def results():
            chance = random.Random(9)
            shell, told = Shell(9), []
            plain = PlainShell(9)
            for _ in range(80):
                line = chance_line(chance, plain.store)
                told.append((answer(plain, line), answer(shell, line)))
            disk = some_reached(chance, shell.disk)
            return told, state_of(shell.disk), words_on(disk)
        self.assertEqual(results(), results())

    def test_numbers_of_lines_have_at_most_six_figures(self):
        self.assertIn(("reach", NUMBER), FORMS)
        self.assertEqual(tale(2, ["reach 999999", "reach 1000000"]), ["0", "(NoLine)"])


if __name__ == "__main__":
    unittest.main()

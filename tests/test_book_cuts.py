"""[12.3]: the fact of the book, over cuts ahead of, amid and behind all that is done."""

import random
import unittest

from foldervotes.books import Book
from foldervotes.disk import Disk
from foldervotes.store import Store
from tests.plain_book import chance_changes, texts_of
from tests.plain_disk import LOST, all_reached, some_reached, words_on
from tests.plain_store import books_of
from tests.test_books import new_book, text_of


class Watched(Disk):
    """A disk that keeps a copy of itself behind each word that is written, and each calm."""

    def __init__(self, blocks):
        super().__init__(blocks)
        self.copies = []

    def write(self, key, worth):
        super().write(key, worth)
        self.copies.append(self.copy())

    def calm(self):
        many = super().calm()
        self.copies.append(self.copy())
        return many


def watched(disk):
    """A watched disk that is like one on which nothing waits."""
    found = Watched(disk.size())
    for key, worth in words_on(disk).items():
        if worth == LOST:
            found.lose(key)
        else:
            found.spoil(key, worth)
    return found


class Life:
    """A book that is led on over cuts; all copies of its disk are cut and looked at."""

    def __init__(self, test, chance, disk, ways):
        self.test, self.chance, self.ways = test, chance, ways
        self.disk = watched(disk)
        self.kept, self.cuts = {}, 0
        self.open([{}])

    def look(self, allowed):
        """Cuts all copies of the disk, and that as it is; each tells one of these texts."""
        copies = self.disk.copies + [self.disk.copy()]
        self.disk.copies = []
        for copy in copies:
            for _ in range(self.ways):
                self.look_at(some_reached(self.chance, copy), allowed)

    def look_at(self, disk, allowed):
        book = Book(Store(disk))
        self.test.assertIn(texts_of(book), allowed)
        self.cuts += 1

    def open(self, allowed):
        """Opens store and book of the disk; the texts are some of these."""
        self.book = Book(Store(self.disk))
        self.kept = texts_of(self.book)
        self.test.assertIn(self.kept, allowed)
        self.look(allowed)

    def cut(self, allowed):
        self.disk = watched(some_reached(self.chance, self.disk))
        self.open(allowed)

    def open_anew(self, allowed):
        """Opens the book anew, without a cut."""
        self.book = Book(self.book.store())
        self.kept = texts_of(self.book)
        self.test.assertIn(self.kept, allowed)
        self.look(allowed)
        # A root that the elder book wrote may wait yet, if no file had to be dropped.
        key = ("body", self.book.store().block_of("/root"))
        if key in dict(self.disk.waiting()):
            self.disk.reach(key)
        self.look([self.kept])

    def reach(self):
        for _ in range(self.chance.choice([0, 0, 1, 3])):
            if self.disk.waiting():
                self.disk.reach(self.chance.choice(self.disk.waiting())[0])

    def commit(self, changes, stop):
        """A commit, step by step, perhaps cut or left ahead of a step."""
        needed = self.book.needs(changes)
        if needed > self.book.store().free():
            return
        after = {name: text for name, text in {**self.kept, **changes}.items()
                 if text is not None}
        many = self.book.begin(changes)
        allowed = [self.kept]
        for done in range(many):
            if done == stop:
                (self.cut if self.chance.random() < 0.7 else self.open_anew)(allowed)
                return
            self.look(allowed)
            self.book.step()
            if done == needed + 1:
                allowed = [self.kept, after]
            if done == needed + 2:
                # Amid the second calm nothing reached the disk behind it yet.
                self.look([self.kept, after])
                allowed = [after]
            self.look(allowed)
            self.reach()
        self.kept = after
        self.test.assertEqual(texts_of(self.book), after)
        self.look([after])

    def other_deeds(self):
        """What others do at other paths, when no commit is under way."""
        store = self.book.store()
        for _ in range(self.chance.choice([0, 1, 2])):
            mine = [path for path in books_of(store) if not path.startswith(("/book", "/root"))]
            way = self.chance.random()
            if way < 0.4 and store.free() and "/mine" not in mine:
                store.make("/mine", "text")
            elif mine and way < 0.7 and store.kind(mine[0]) == "file":
                store.put(mine[0], self.chance.choice(["one", "two"]))
            elif mine:
                # Behind a cut a file may be there as a folder.
                store.drop(mine[0])
            self.look([self.kept])


class Fact(unittest.TestCase):
    def test_lives_by_chance(self):
        cuts = 0
        for seed in range(24):
            chance = random.Random(seed)
            life = Life(self, chance, Disk([4, 6, 9, 14][seed % 4]), 1)
            for _ in range(7):
                changes = chance_changes(chance, life.kept)
                life.commit(changes, chance.choice([None, chance.randint(0, 9)]))
                if chance.random() < 0.3:
                    life.other_deeds()
                if chance.random() < 0.2:
                    life.cut([life.kept])
            cuts += life.cuts
        self.assertGreater(cuts, 2000)

    def check_all_ways(self, disk, allowed):
        found = []
        for copy in all_reached(disk):
            texts = texts_of(Book(Store(copy)))
            self.assertIn(texts, allowed)
            if texts not in found:
                found.append(texts)
        return found

    def test_all_ways_amid_the_first_opening(self):
        for blocks in (3, 4):
            disk = Watched(blocks)
            Book(Store(disk))
            self.assertGreater(len(disk.copies), 5)
            for copy in disk.copies:
                self.assertEqual(self.check_all_ways(copy, [{}]), [{}])

    def test_all_ways_amid_later_openings(self):
        """Openings of what a cut left of an opening, on a disk that has no block to spare."""
        disk = Watched(3)
        Book(Store(disk))
        seen = []
        for copy in disk.copies:
            for cut in all_reached(copy):
                if words_on(cut) not in seen:
                    seen.append(words_on(cut))
                    again = watched(cut)
                    Book(Store(again))
                    for other in again.copies:
                        self.check_all_ways(other, [{}])
        self.assertGreater(len(seen), 4)

    def test_all_ways_ahead_of_and_behind_each_step(self):
        elder, after = {"x": "one"}, {"y": "two"}
        for stop in range(9):
            book = new_book(7)
            book.commit(elder)
            book.store().calm()
            many = book.begin({"x": None, "y": "two"})
            self.assertEqual(many, 2 + 3 + 2)
            for _ in range(min(stop, many)):
                book.step()
            allowed = [elder] if stop < 4 else [elder, after] if stop == 4 else [after]
            if stop in (0, 1, 3, 4, 5, 6):
                found = self.check_all_ways(book.store().disk(), allowed)
                self.assertEqual(sorted(map(str, found)), sorted(map(str, allowed)))

    def test_a_book_that_is_opened_anew_behind_its_root(self):
        """The root that an elder book wrote waits: files are dropped only behind it."""
        for again in (False, True):
            book = new_book(9)
            book.commit({"x": "one", "y": text_of(41)})
            many = book.begin({"x": "new"})
            for _ in range(2 + 2):
                book.step()
            store = book.store()
            self.assertEqual(store.disk().waiting(), [(("body", store.block_of("/root")), 1)])
            calms = store.calms()
            other = Book(store)
            self.assertEqual(store.calms(), calms)
            self.assertEqual(many, 7)
            texts = {"x": "new", "y": text_of(41)}
            self.assertEqual(texts_of(other), texts)
            if again:
                other = Book(store)
            self.assertEqual(texts_of(other), texts)
            chance = random.Random(1)
            for _ in range(60):
                self.assertEqual(texts_of(Book(Store(some_reached(chance, store.disk())))), texts)

    def test_nothing_is_lost_of_long_texts(self):
        chance = random.Random(5)
        book = new_book(40)
        elder = {"x": text_of(400), "y": text_of(200, 7)}
        book.commit(elder)
        after = {"x": text_of(390, 3), "z": text_of(40), "y": text_of(200, 7)}
        for _ in range(book.begin({name: after[name] for name in "xz"})):
            book.step()
            for _ in range(2):
                found = texts_of(Book(Store(some_reached(chance, book.store().disk()))))
                self.assertIn(found, [elder, after])
        self.assertEqual(texts_of(book), after)


if __name__ == "__main__":
    unittest.main()

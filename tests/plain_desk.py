"""A desk and its forms of lines, by the document's words, over a disk, a store, a book."""

from foldervotes.books import Book
from foldervotes.disk import Disk
from foldervotes.errors import NoChanges, NoLine
from foldervotes.store import Store
from tests.plain_book import chance_text
from tests.plain_shell import NUMBER, reached, words_in

NAME = "([a-z]{1,8})"
FORMS = [("set", NAME + " (.*)"), ("drop", NAME), ("begin", ""), ("step", ""), ("commit", ""),
         ("forget", ""), ("show", NAME), ("names", ""), ("gathered", ""), ("needs", ""),
         ("free", ""), ("calms", ""), ("waits", ""), ("commits", ""), ("reach", NUMBER),
         ("cut", "")]


class PlainDesk:
    """What a desk does, over a disk, a store and a book."""

    def __init__(self, blocks):
        self.disk = Disk(blocks)
        self.last = None
        self.open_both()

    def open_both(self):
        self.store = Store(self.disk)
        self.book = Book(self.store)
        self.changes = {}

    def tell(self, line):
        words = words_in(line, FORMS)
        if words is None:
            raise NoLine()
        word, *words = words
        told = getattr(self, word)(*words)
        return "ok" if told is None else str(told)

    def set(self, name, text):
        if len(text) > 400 or text.strip("abcdefghijklmnopqrstuvwxyz ") != "":
            raise NoChanges()
        self.changes[name] = text

    def drop(self, name):
        if name not in self.book.names():
            raise NoChanges()
        self.changes[name] = None

    def begin(self):
        many = self.book.begin(dict(self.changes))
        self.changes = {}
        return many

    def step(self):
        return self.book.step()

    def commit(self):
        many = self.book.commit(dict(self.changes))
        self.changes = {}
        return many

    def forget(self):
        self.changes = {}

    def show(self, name):
        return self.book.text(name)

    def names(self):
        return " ".join(self.book.names()) or "none"

    def gathered(self):
        return " ".join(sorted(self.changes)) or "none"

    def needs(self):
        return self.book.needs(dict(self.changes))

    def free(self):
        return self.store.free()

    def calms(self):
        return self.store.calms()

    def waits(self):
        return sum(many for _, many in self.disk.waiting())

    def commits(self):
        return self.book.commits()

    def reach(self, most):
        self.last, many = reached(self.disk, self.last, int(most))
        return many

    def cut(self):
        self.disk.cut()
        self.open_both()


def chance_desk_line(chance):
    """A line by chance, most of them such that something is done."""
    word, form = chance.choice(FORMS + FORMS[:4] + [("step", "")] * 6 + [("reach", NUMBER)])
    name = chance.choice(["x", "y", "z", "ab", "abcdefgh"])
    if form == NUMBER:
        return f"reach {chance.choice([0, 1, 2, 5, 12, 40, 999999])}"
    if word == "set":
        text = chance_text(chance) if chance.random() < 0.93 else chance.choice(
            ["A", "a" * 401, "1", "a.b"])
        return f"set {name} {text}"
    return f"{word} {name}" if form else word

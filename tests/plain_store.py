"""A store kept as plain books, as the document's words say it (9)."""

import re

from foldervotes.errors import (BadBody, Beneath, NameTwice, NoBlocks, NoPath, NotEmpty, NoText,
                                NotFile, NotFolder, NotThere, RingTold, TakenPath)
from tests.plain_disk import LOST, plain_mounted, words_told
from tests.test_histories import has_ring


def is_path(thing):
    return isinstance(thing, str) and bool(re.fullmatch(r"/|(/[a-z]{1,8})+", thing))


def is_text(thing):
    return isinstance(thing, str) and bool(re.fullmatch(r"[a-z ]{0,40}", thing))


def folder_of(path):
    return path.rpartition("/")[0] or "/"


def freed_of(hung):
    """The blocks beneath block 1."""
    found = {1}
    for _ in hung:
        found |= {block for block, place in enumerate(hung, start=1) if place in found}
    return found - {1}


class Failed(Exception):
    """The class and the fields of an error that is due."""

    def __init__(self, kind, *fields):
        self.kind, self.fields = kind, fields


class PlainStore:
    """Where blocks hang, their names and bodies, all ties since the calm, and books by paths."""

    def __init__(self, disk):
        found = plain_mounted(disk.words, disk.blocks)
        if isinstance(found[0], str):
            raise Failed({"RingTold": RingTold, "NameTwice": NameTwice}[found[0]], *found[1:])
        self.disk, self.blocks = disk, range(2, disk.blocks + 1)
        hung, names, bodies = map(list, found)
        freed = freed_of(hung)
        for block in self.blocks:
            body = bodies[block - 1]
            if block not in freed and (names[block - 1] == "" or body == LOST
                                       or body is not None and block in hung):
                raise Failed(BadBody, block)
        for block in freed:
            hung[block - 1], names[block - 1], bodies[block - 1] = 1, "", None
        self.hung, self.names, self.bodies = hung, names, bodies
        for key, worth in words_told(hung, names, bodies).items():
            self.write(key, worth)
        self.calm()
        self.calms, self.why = 0, []
        self.books = {self.path_of(block): bodies[block - 1] for block in self.used()}

    def used(self):
        return [block for block in self.blocks if self.hung[block - 1] != 1]

    def path_of(self, block):
        path = ""
        while block:
            path = "/" + self.names[block - 1] + path
            block = self.hung[block - 1]
        return path or "/"

    def block_at(self, path):
        return 0 if path == "/" else [block for block in self.used()
                                      if self.path_of(block) == path][0]

    def write(self, key, worth):
        if self.disk.seen(key) != worth:
            self.disk.write(key, worth)

    def calm(self):
        self.disk.calm()
        self.calms = getattr(self, "calms", 0) + 1
        self.ties = {(block, self.hung[block - 1], self.names[block - 1])
                     for block in self.blocks}

    def places(self, ties):
        return {block: {place for other, place, _ in ties if other == block}
                for block in self.blocks}

    def reasons(self, block, place, name):
        """Which of (a), (b), (c) ask for a calm ahead of a new tie."""
        ties = self.ties | {(block, place, name)}
        had = self.places(ties)
        ends = [(at, name) for _, at, name in ties if at != 1]
        to_free = {other for other in had if 1 in had[other]}
        leading = set(to_free)
        for _ in self.blocks:
            leading |= {other for other in had if had[other] & leading}
        return ("a" * has_ring(had) + "b" * (len(ends) > len(set(ends)))
                + "c" * bool(leading - to_free))

    def unused(self):
        had = self.places(self.ties)
        return [block for block in self.blocks if had[block] == {1}]

    def ahead(self, why):
        """Calms if there are reasons, and keeps these."""
        if why:
            self.calm()
            self.why.append(why)

    def give(self, block, body):
        self.bodies[block - 1] = body
        self.write(("body", block), body)

    def hang(self, block, place, name):
        elder = self.hung[block - 1]
        self.hung[block - 1], self.names[block - 1] = place, name
        self.ties.add((block, place, name))
        self.write(("up", block), (place, name))
        if elder != place:
            self.write(("lists", elder, block), None)
        self.write(("lists", place, block), name)

    # What is asked for by paths; Failed tells the error that is due.

    def there(self, path):
        return path == "/" or path in self.books

    def check_path(self, path):
        if not is_path(path):
            raise Failed(NoPath, path)

    def check_there(self, path):
        self.check_path(path)
        if not self.there(path):
            begin = path
            while not self.there(begin):
                begin = folder_of(begin)
            raise Failed(NotThere, begin)

    def check_folder(self, path):
        self.check_there(path)
        if self.books.get(path) is not None:
            raise Failed(NotFolder, path)

    def check_file(self, path):
        self.check_there(path)
        if self.books.get(path) is None:
            raise Failed(NotFile, path)

    def check_new(self, path):
        self.check_path(path)
        if self.there(path):
            raise Failed(TakenPath, path)
        self.check_folder(folder_of(path))

    def check_text(self, text):
        if not is_text(text):
            raise Failed(NoText)

    def entries(self, path):
        self.check_folder(path)
        return sorted(other.rpartition("/")[2] for other in self.books
                      if folder_of(other) == path)

    def kind(self, path):
        self.check_path(path)
        if not self.there(path):
            return None
        return "folder" if self.books.get(path) is None else "file"

    def read(self, path):
        self.check_file(path)
        return self.books[path]

    def block_of(self, path):
        self.check_there(path)
        return self.block_at(path)

    def make(self, path, text):
        self.check_new(path)
        self.check_text(text)
        self.take(path, text)

    def folder(self, path):
        self.check_new(path)
        self.take(path, None)

    def take(self, path, text):
        if not self.free():
            raise Failed(NoBlocks)
        place, name = self.block_at(folder_of(path)), path.rpartition("/")[2]
        self.ahead(self.reasons(self.unused()[0], place, name) if self.unused() else "d")
        block = self.unused()[0]
        self.give(block, text)
        self.hang(block, place, name)
        self.books[path] = text

    def put(self, path, text):
        self.check_file(path)
        self.check_text(text)
        self.give(self.block_at(path), text)
        self.books[path] = text

    def move(self, path, other):
        if path == "/":
            raise Failed(NoPath, path)
        self.check_there(path)
        if other == "/":
            raise Failed(NoPath, other)
        self.check_new(other)
        if other.startswith(path + "/"):
            raise Failed(Beneath)
        block, place = self.block_at(path), self.block_at(folder_of(other))
        name = other.rpartition("/")[2]
        self.ahead(self.reasons(block, place, name))
        self.hang(block, place, name)
        self.books = {other + at[len(path):] if (at + "/").startswith(path + "/") else at: text
                      for at, text in self.books.items()}

    def drop(self, path):
        if path == "/":
            raise Failed(NoPath, path)
        self.check_there(path)
        if any(folder_of(other) == path for other in self.books):
            raise Failed(NotEmpty, path)
        block = self.block_at(path)
        self.ahead(self.reasons(block, 1, ""))
        self.give(block, None)
        self.hang(block, 1, "")
        del self.books[path]

    def free(self):
        return self.hung.count(1)


def books_of(store, path="/"):
    """What a store has beneath a path: texts by paths, None for folders."""
    books = {}
    for name in store.entries(path):
        inner = path.rstrip("/") + "/" + name
        books[inner] = store.read(inner) if store.kind(inner) == "file" else None
        if books[inner] is None:
            books.update(books_of(store, inner))
    return books

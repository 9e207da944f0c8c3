"""A book kept as a plain account, by the document's words, over a store (12)."""

import itertools
import re

from foldervotes.errors import (BadBook, NoBlocks, NoChanges, NotKept, NotUnderWay, UnderWay)
from tests.plain_store import Failed

LETTERS = "abcdefghijklmnopqrstuvwxyz"
# All names of one or two letters, by length, then as texts.
FILE_NAMES = list(LETTERS) + ["".join(pair) for pair in itertools.product(LETTERS, repeat=2)]


def is_name(thing):
    return isinstance(thing, str) and bool(re.fullmatch("[a-z]{1,8}", thing))


def cut_by(signs, many):
    return re.findall("(?s).{1,%d}" % many, signs)


def index_of(files):
    """The index of the files of texts."""
    return " ".join(" ".join([name, "abcdefghijk"[len(files[name])], *files[name]])
                    for name in sorted(files))


def files_of_index(index):
    """The files that an index tells, or None if it is none."""
    files, words = {}, index.split(" ")
    while words:
        name, count, *words = words if len(words) > 1 else (*words, "")
        many = "abcdefghijk".index(count) if re.fullmatch("[a-k]", count) else 99
        if not is_name(name) or len(words) < many or not all(map(is_name, words[:many])):
            return None
        files[name], words = words[:many], words[many:]
    return files if index_of(files) == index else None


def laid_files(texts, files, names):
    """The files, by names, of texts with these files, and parts with these names."""
    found = {}
    for name, text in texts.items():
        found.update(zip(files[name], cut_by(text, 40)))
    parts = cut_by(index_of(files), 31)
    assert len(parts) == len(names)
    for at, signs in enumerate(parts):
        found[names[at]] = names[min(at + 1, len(parts) - 1)] + " " + signs
    return found


class PlainBook:
    """What a book tells, and the deeds that it does in a store, step by step."""

    def __init__(self, store):
        self.store = store
        self.steps, self.many_commits = [], 0
        self.lay()
        self.read_all()
        self.sweep()

    def kind(self, name):
        return self.store.kind("/book/" + name)

    def lay(self):
        store = self.store
        if store.kind("/book") == "file":
            raise Failed(BadBook, "/book")
        empty = store.kind("/root") == "folder"
        if empty and store.entries("/root"):
            raise Failed(BadBook, "/root")
        lacking = (store.kind("/book") is None) + (store.kind("/root") != "file")
        if store.free() + empty < lacking:
            raise Failed(NoBlocks)
        if store.kind("/book") is None:
            store.folder("/book")
        if empty:
            store.drop("/root")
        if store.kind("/root") is None:
            store.make("/root", "")
        if lacking:
            store.calm()

    def read_all(self):
        root = self.store.read("/root")
        self.texts, self.files, self.parts = {}, {}, []
        if root == "":
            return
        if not is_name(root):
            raise Failed(BadBook, "/root")
        index, name = "", root
        while name is not None:
            if self.kind(name) != "file" or name in self.parts:
                raise Failed(BadBook, "/book/" + name)
            found = re.fullmatch("([a-z]{1,8}) ([a-z ]{1,31})", self.store.read("/book/" + name))
            if not found or found[1] != name and len(found[2]) != 31:
                raise Failed(BadBook, "/book/" + name)
            self.parts.append(name)
            index += found[2]
            name = None if found[1] == name else found[1]
        self.files = files_of_index(index)
        if self.files is None:
            raise Failed(BadBook, "/root")
        named = self.parts + sum(self.files.values(), [])
        if len(set(named)) < len(named):
            raise Failed(BadBook, "/root")
        for text, names in self.files.items():
            pieces = []
            for name in names:
                piece = self.store.read("/book/" + name) if self.kind(name) == "file" else ""
                if not piece or name != names[-1] and len(piece) != 40:
                    raise Failed(BadBook, "/book/" + name)
                pieces.append(piece)
            self.texts[text] = "".join(pieces)

    def sweep(self):
        others = [name for name in self.store.entries("/book") if name not in self.used()]
        for name in others:
            if self.kind(name) == "folder" and self.store.entries("/book/" + name):
                raise Failed(BadBook, "/book/" + name)
        # A root that waits, as an elder book wrote it, reaches the disk ahead of that.
        key = ("body", self.store.block_of("/root"))
        while others and key in dict(self.store.disk().waiting()):
            self.store.disk().reach(key)
        for name in others:
            self.store.drop("/book/" + name)

    def used(self):
        return self.parts + sum(self.files.values(), [])

    def names(self):
        return sorted(self.texts)

    def check_kept(self, name):
        if not isinstance(name, str) or name not in self.texts:
            raise Failed(NotKept, name)

    def text(self, name):
        self.check_kept(name)
        return self.texts[name]

    def files_of(self, name):
        self.check_kept(name)
        return ["/book/" + file for file in self.files[name]]

    def check_changes(self, changes):
        if self.steps:
            raise Failed(UnderWay)
        if not isinstance(changes, dict):
            raise Failed(NoChanges)
        for name, text in changes.items():
            good = name in self.texts if text is None and is_name(name) else (
                isinstance(text, str) and re.fullmatch("[a-z ]{0,400}", text))
            if not is_name(name) or not good:
                raise Failed(NoChanges)

    def plan(self, changes):
        """The texts, files and parts behind a commit, and the files made, in their order."""
        texts, files = dict(self.texts), dict(self.files)
        there = self.store.entries("/book")
        free = (name for name in FILE_NAMES if name not in there)
        made = []
        for name in sorted(changes):
            if changes[name] == texts.get(name):
                continue
            texts.pop(name, None)
            files.pop(name, None)
            if changes[name] is not None:
                texts[name] = changes[name]
                pieces = cut_by(changes[name], 40)
                files[name] = [next(free) for _ in pieces]
                made.extend(zip(files[name], pieces))
        if texts == self.texts:
            return None
        parts = [next(free) for _ in cut_by(index_of(files), 31)]
        told = laid_files(texts, files, parts)
        return texts, files, parts, made + [(name, told[name]) for name in parts]

    def needs(self, changes):
        self.check_changes(changes)
        plan = self.plan(changes)
        return len(plan[3]) if plan else 0

    def begin(self, changes):
        self.check_changes(changes)
        plan = self.plan(changes)
        if plan is None:
            return 0
        texts, files, parts, made = plan
        if self.store.free() < len(made):
            raise Failed(NoBlocks)
        store = self.store
        left = parts + sum(files.values(), [])
        steps = [lambda name=name, text=text: store.make("/book/" + name, text)
                 for name, text in made]
        steps += [store.calm, lambda: store.put("/root", (parts + [""])[0]),
                  lambda: self.second_calm(texts, files, parts)]
        steps += [lambda name=name: store.drop("/book/" + name)
                  for name in sorted(self.used()) if name not in left]
        self.steps = steps
        return len(steps)

    def second_calm(self, *found):
        self.store.calm()
        self.texts, self.files, self.parts = found
        self.many_commits += 1

    def step(self):
        if not self.steps:
            raise Failed(NotUnderWay)
        self.steps.pop(0)()
        return len(self.steps)

    def commit(self, changes):
        many = self.needs(changes)
        self.begin(changes)
        while self.steps:
            self.step()
        return many

    def commits(self):
        return self.many_commits


def texts_of(book):
    """The dict of the texts of a book."""
    return {name: book.text(name) for name in book.names()}


def chance_text(chance):
    many = chance.choice([0, 1, 5, 39, 40, 41, 80, 81, 130])
    return "".join(chance.choice("abc ") for _ in range(many))


def chance_changes(chance, kept):
    """Changes by chance; kept is the dict of what is kept."""
    changes = {}
    for _ in range(chance.choice([0, 1, 1, 2, 3])):
        name = chance.choice(["x", "y", "z", "ab", "abcdefgh"])
        way = chance.random()
        if way < 0.25 and kept:
            changes[chance.choice(sorted(kept))] = None
        elif way < 0.35 and kept:
            name = chance.choice(sorted(kept))
            changes[name] = kept[name]
        else:
            changes[name] = chance_text(chance)
    return changes

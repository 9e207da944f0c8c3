"""A shell and its forms of lines, by the document's words, over a disk, a store, a checker."""

import re

from foldervotes.checker import Checker
from foldervotes.disk import Disk
from foldervotes.errors import BadBody, NameTwice, NoLine, RingTold
from foldervotes.mount import salvaged
from foldervotes.store import Store
from tests.plain_disk import LOST, words_told

NUMBER = "(0|[1-9][0-9]{0,5})"
FORMS = [("make", "([^ ]+) (.*)"), ("folder", "([^ ]+)"), ("put", "([^ ]+) (.*)"),
         ("move", "([^ ]+) ([^ ]+)"), ("drop", "([^ ]+)"), ("calm", ""), ("read", "([^ ]+)"),
         ("list", "([^ ]+)"), ("reach", NUMBER), ("cut", ""), ("lose", NUMBER),
         ("spoil", NUMBER), ("check", ""), ("calms", ""), ("waits", "")]


def words_in(line, forms=None):
    """The first word of a line and those that its form has, or None for no line."""
    for word, form in forms or FORMS:
        found = isinstance(line, str) and re.fullmatch(word + (" " + form if form else ""), line)
        if found:
            return [word, *found.groups()]
    return None


def reached(disk, last, most):
    """Lets words reach a disk, one by one; the last key and how many did."""
    for many in range(most):
        keys = [key for key, _ in disk.waiting()]
        if not keys:
            return last, many
        last = min([key for key in keys if last is not None and key > last] or keys)
        disk.reach(last)
    return last, most


class PlainShell:
    """What a shell does, over a disk, a store and a checker."""

    def __init__(self, blocks):
        self.disk = Disk(blocks)
        self.last = None
        self.mount()

    def mount(self):
        self.store = Store(self.disk)
        self.checker = Checker(self.store)

    def tell(self, line):
        words = words_in(line)
        if words is None:
            raise NoLine()
        word, *words = words
        if word in ("lose", "spoil"):
            keys = self.disk.all_keys()
            if int(words[0]) >= len(keys):
                raise NoLine()
            self.spoil(word, keys[int(words[0])])
            return "ok"
        if word in ("make", "folder", "put", "move", "drop", "calm"):
            getattr(self.store, word)(*words)
            return "ok"
        if word == "reach":
            self.last, many = reached(self.disk, self.last, int(words[0]))
            return str(many)
        return getattr(self, word)(*words)

    def spoil(self, word, key):
        if word == "lose":
            self.disk.lose(key)
        elif key[0] == "up":
            self.disk.spoil(key, (0, "spoilt"))
        elif key[0] == "lists" and self.disk.word(key) not in (None, LOST):
            self.disk.spoil(key, None)
        else:
            self.disk.spoil(key, "spoilt")

    def read(self, path):
        return self.store.read(path)

    def list(self, path):
        return " ".join(self.store.entries(path)) or "none"

    def cut(self):
        self.disk.cut()
        try:
            self.mount()
        except (RingTold, NameTwice, BadBody):
            tree, names, bodies = salvaged(self.disk)
            for key, worth in words_told(tree.hung, names, bodies).items():
                self.disk.spoil(key, worth)
            self.mount()
            raise
        return "ok"

    def check(self):
        return str(len(self.checker.round()))

    def calms(self):
        return str(self.store.calms())

    def waits(self):
        return str(sum(many for _, many in self.disk.waiting()))


def answer(shell, line):
    """What is told to a line, or the class and the fields of the error."""
    try:
        return shell.tell(line)
    except ValueError as error:
        return type(error).__name__, tuple(vars(error).values())


def chance_line(chance, store):
    """A line by chance, most of them such that something is done."""
    def path():
        known, at = ["/"], 0
        while at < len(known):
            if store.kind(known[at]) == "folder":
                known.extend([known[at].rstrip("/") + "/" + name
                              for name in store.entries(known[at])])
            at += 1
        one = chance.choice(known)
        if chance.random() < 0.5:
            one = one.rstrip("/") + "/" + chance.choice("abc")
        return one if chance.random() < 0.97 else chance.choice(["a", "//", "/A", "-", "/a/"])

    def text():
        return chance.choice(["", "x", " ", "two words", "  blanks  ", "a" * 40, "a" * 41, "A!"])
    word, form = chance.choice(FORMS + FORMS[:5] + [("reach", NUMBER)] * 2)
    if form == NUMBER:
        return word + " " + str(chance.choice([0, 1, 2, 3, 5, 9, 17, 30, 200, 999999]))
    words = [path() for _ in range(form.count("[^ ]"))] + [text()] * form.count(".*")
    return " ".join([word, *words])

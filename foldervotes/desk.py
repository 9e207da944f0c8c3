"""A book that is led by lines, and tales of books (13)."""

from foldervotes.books import Book
from foldervotes.disk import Disk
from foldervotes.errors import NoLine, NoLines
from foldervotes.lines import (first_word, is_lines, joined_or_none, told_to_lines,
                               words_behind)
from foldervotes.store import Store
from foldervotes.turns import Turns, many_waiting

FORMS = {
    "set": ("name", "text"), "drop": ("name",), "begin": (), "step": (), "commit": (),
    "forget": (), "show": ("name",), "names": (), "gathered": (), "needs": (), "free": (),
    "calms": (), "waits": (), "commits": (), "reach": ("number",), "cut": (),
}


class Desk:
    """A disk, a book in a store of it until the next cut, and the changes that are gathered."""

    def __init__(self, blocks):
        self.disk = Disk(blocks)
        self.turns = Turns(self.disk)
        self.open_anew()

    def tell(self, line):
        """Does what a line asks for; what is told then."""
        word = first_word(line)
        if word not in FORMS:
            raise NoLine()
        words = words_behind(FORMS[word], line)
        if words is None:
            raise NoLine()
        answer = ANSWERS[word]
        told = answer(self, words)
        return "ok" if told is None else told

    def open_anew(self):
        """Opens store and book anew; nothing is gathered then."""
        self.book = Book(Store(self.disk))
        self.gathered = {}

    def gather(self, name, text):
        """Gathers a change, in the place of an elder one of the name."""
        self.book.check_change(name, text)
        self.gathered[name] = text


def _set(desk, words):
    desk.gather(words[0], words[1])


def _drop(desk, words):
    desk.gather(words[0], None)


def _begin(desk, _):
    many = desk.book.begin(desk.gathered)
    desk.gathered = {}
    return str(many)


def _step(desk, _):
    return str(desk.book.step())


def _commit(desk, _):
    many = desk.book.commit(desk.gathered)
    desk.gathered = {}
    return str(many)


def _forget(desk, _):
    desk.gathered = {}


def _show(desk, words):
    return desk.book.text(words[0])


def _names(desk, _):
    return joined_or_none(desk.book.names())


def _gathered(desk, _):
    return joined_or_none(sorted(desk.gathered))


def _needs(desk, _):
    return str(desk.book.needs(desk.gathered))


def _free(desk, _):
    return str(desk.book.store().free())


def _calms(desk, _):
    return str(desk.book.store().calms())


def _waits(desk, _):
    return str(many_waiting(desk.disk))


def _commits(desk, _):
    return str(desk.book.commits())


def _reach(desk, words):
    return str(desk.turns.reach(int(words[0])))


def _cut(desk, _):
    desk.disk.cut()
    desk.open_anew()


ANSWERS = {
    "set": _set, "drop": _drop, "begin": _begin, "step": _step, "commit": _commit,
    "forget": _forget, "show": _show, "names": _names, "gathered": _gathered,
    "needs": _needs, "free": _free, "calms": _calms, "waits": _waits, "commits": _commits,
    "reach": _reach, "cut": _cut,
}


def book_tale(blocks, lines):
    """What a new desk tells to lines, one behind the other."""
    desk = Desk(blocks)
    if not is_lines(lines):
        raise NoLines()
    return told_to_lines(desk, lines)


def texts_told(blocks, lines):
    """The dict of the texts that a new desk's book has behind lines."""
    desk = Desk(blocks)
    if not is_lines(lines):
        raise NoLines()
    told_to_lines(desk, lines)
    return {name: desk.book.text(name) for name in desk.book.names()}

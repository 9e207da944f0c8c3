"""A store that is led by lines (11.1)."""

from foldervotes.checker import Checker
from foldervotes.disk import LOST, Disk
from foldervotes.errors import BadBody, NameTwice, NoLine, RingTold
from foldervotes.lines import first_word, joined_or_none, words_behind
from foldervotes.mount import salvaged, worth_told
from foldervotes.store import Store
from foldervotes.turns import Turns, many_waiting

SPOILT = "spoilt"
FORMS = {
    "make": ("path", "text"), "folder": ("path",), "put": ("path", "text"),
    "move": ("path", "path"), "drop": ("path",), "calm": (),
    "read": ("path",), "list": ("path",), "reach": ("number",), "cut": (),
    "lose": ("number",), "spoil": ("number",), "check": (), "calms": (), "waits": (),
}


def shell_words(line):
    """The words of a line of the shell, a K perhaps too great, or None for no such line."""
    word = first_word(line)
    if word not in FORMS:
        return None
    words = words_behind(FORMS[word], line)
    return None if words is None else [word, *words]


class Shell:
    """A disk, and the store and the checker that go with it until the next cut."""

    def __init__(self, blocks):
        self.disk = Disk(blocks)
        self.turns = Turns(self.disk)
        self.mount()

    def tell(self, line):
        """Does what a line asks for; what is told then."""
        words = shell_words(line)
        if words is None:
            raise NoLine()
        answer = ANSWERS[words[0]]
        told = answer(self, words[1:])
        return "ok" if told is None else told

    def mount(self):
        """Mounts the store anew, with a new checker beside it."""
        self.store = Store(self.disk)
        self.checker = Checker(self.store)

    def mount_or_salvage(self):
        """Mounts the store anew, if need be behind writing what is salvaged."""
        try:
            self.mount()
        except (RingTold, NameTwice, BadBody):
            self.write_salvaged()
            self.mount()
            raise

    def write_salvaged(self):
        """Lets all words on the disk be as salvaged tells."""
        tree, names, bodies = salvaged(self.disk)
        for key in self.disk.all_keys():
            self.disk.write(key, worth_told(tree.hung, names, bodies, key))
        self.disk.calm()

    def key_of(self, figures):
        """The key of a word whose number a line has."""
        keys = self.disk.all_keys()
        if int(figures) >= len(keys):
            raise NoLine()
        return keys[int(figures)]


def _make(shell, words):
    shell.store.make(words[0], words[1])


def _folder(shell, words):
    shell.store.folder(words[0])


def _put(shell, words):
    shell.store.put(words[0], words[1])


def _move(shell, words):
    shell.store.move(words[0], words[1])


def _drop(shell, words):
    shell.store.drop(words[0])


def _calm(shell, _):
    shell.store.calm()


def _read(shell, words):
    return shell.store.read(words[0])


def _list(shell, words):
    return joined_or_none(shell.store.entries(words[0]))


def _reach(shell, words):
    return str(shell.turns.reach(int(words[0])))


def _cut(shell, _):
    shell.disk.cut()
    shell.mount_or_salvage()


def _lose(shell, words):
    shell.disk.lose(shell.key_of(words[0]))


def _spoil(shell, words):
    key = shell.key_of(words[0])
    shell.disk.spoil(key, _spoilt_worth(key, shell.disk.word(key)))


def _spoilt_worth(key, there):
    if key[0] == "up":
        return 0, SPOILT
    if key[0] == "lists" and there is not None and there != LOST:
        return None
    return SPOILT


def _check(shell, _):
    return str(len(shell.checker.round()))


def _calms(shell, _):
    return str(shell.store.calms())


def _waits(shell, _):
    return str(many_waiting(shell.disk))


ANSWERS = {
    "make": _make, "folder": _folder, "put": _put, "move": _move, "drop": _drop,
    "calm": _calm, "read": _read, "list": _list, "reach": _reach, "cut": _cut,
    "lose": _lose, "spoil": _spoil, "check": _check, "calms": _calms, "waits": _waits,
}

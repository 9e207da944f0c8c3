"""A store of files and folders, without a journal, on a disk (9)."""

from foldervotes.disk import FREE, MOST_TEXT
from foldervotes.errors import (NoPath, NotEmpty, NoText, NotFile, NotFolder, NotThere,
                                TakenPath)
from foldervotes.keeper import Keeper
from foldervotes.paths import path_of, steps_of
from foldervotes.signs import is_text


class Store:
    """Files and folders by their paths; it leads a disk, which it mounts."""

    def __init__(self, disk):
        self._keeper = Keeper(disk)

    def disk(self):
        """The disk that the store leads."""
        return self._keeper.disk

    def told(self, key):
        """The worth that the word of a key has by the store's tree, names and bodies."""
        return self._keeper.told(key)

    def entries(self, path):
        """The ascending list of the names in a folder."""
        place = self._folder_at(path)
        return sorted([self._keeper.names[block - 1] for block in self._keeper.under(place)])

    def kind(self, path):
        """Whether there is a "file" or a "folder" at a path, or nothing: None."""
        steps = _steps(path)
        way = self._way(steps)
        if len(way) <= len(steps):
            return None
        return self._kind_of(way[-1])

    def read(self, path):
        """The text of a file."""
        return self._keeper.body(self._file_at(path))

    def block_of(self, path):
        """The block of what is at a path, 0 for the head."""
        return self._block_at(_steps(path))

    def make(self, path, text):
        """Makes a file."""
        place, name = self._new_end(_steps(path))
        _check_text(text)
        self._keeper.take(place, name, text)

    def folder(self, path):
        """Makes a folder."""
        place, name = self._new_end(_steps(path))
        self._keeper.take(place, name, None)

    def put(self, path, text):
        """Gives a file another text."""
        block = self._file_at(path)
        _check_text(text)
        self._keeper.set_body(block, text)

    def move(self, path, other):
        """Hangs a thing, with all beneath it, elsewhere, or calls it otherwise."""
        block = self._block_at(_steps_to_thing(path))
        place, name = self._new_end(_steps_to_thing(other))
        self._keeper.move(block, place, name)

    def drop(self, path):
        """Gives back a file or an empty folder."""
        block = self._block_at(_steps_to_thing(path))
        if self._keeper.under(block):
            raise NotEmpty(path)
        self._keeper.give_back(block)

    def calm(self):
        """Calms the disk."""
        self._keeper.calm()

    def calms(self):
        """How often the store calmed the disk since it was mounted."""
        return self._keeper.many_calms

    def free(self):
        """How many blocks hang under block 1."""
        return len(self._keeper.under(FREE))

    def _way(self, steps):
        """The blocks along some steps from the head on, as far as there are some."""
        way = [0]
        for name in steps:
            block = self._keeper.child(way[-1], name)
            if block is None:
                return way
            way.append(block)
        return way

    def _kind_of(self, block):
        return "folder" if self._keeper.body(block) is None else "file"

    def _block_at(self, steps):
        way = self._way(steps)
        if len(way) <= len(steps):
            raise NotThere(path_of(steps[:len(way) - 1]))
        return way[-1]

    def _file_at(self, path):
        block = self._block_at(_steps(path))
        if self._kind_of(block) != "file":
            raise NotFile(path)
        return block

    def _folder_at(self, path):
        block = self._block_at(_steps(path))
        if self._kind_of(block) != "folder":
            raise NotFolder(path)
        return block

    def _new_end(self, steps):
        """The folder in which a new thing would be, and its name there."""
        if len(self._way(steps)) > len(steps):
            raise TakenPath(path_of(steps))
        return self._folder_at(path_of(steps[:-1])), steps[-1]


def _steps(path):
    steps = steps_of(path)
    if steps is None:
        raise NoPath(path)
    return steps


def _steps_to_thing(path):
    """The steps of a path to something else than the head, which can't be moved or dropped."""
    steps = _steps(path)
    if not steps:
        raise NoPath(path)
    return steps


def _check_text(text):
    if not is_text(MOST_TEXT, text):
        raise NoText()

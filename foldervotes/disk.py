"""A disk of words, and the cache in which what is written waits (7)."""

from foldervotes.errors import NoNumber, NothingWaits, NoWord, NoWorth
from foldervotes.kinds import is_pair, is_within
from foldervotes.signs import is_name, is_text
from foldervotes.trees import MOST_BLOCKS
from foldervotes.words import Words

FREE = 1
LOST = ("lost",)
MOST_TEXT = 40


class Disk:
    """Words by their keys, and for each key the worths that wait for it, elder ones first."""

    def __init__(self, blocks):
        if not is_within(2, MOST_BLOCKS, blocks):
            raise NoNumber()
        self._blocks = blocks
        self._words = _new_words(blocks)
        self._cache = {}

    def size(self):
        """How many blocks the disk has."""
        return self._blocks

    def all_keys(self):
        """The ascending list of all keys."""
        return list(self._words)

    def write(self, key, worth):
        """Puts a worth into the cache, behind what waits there for this word."""
        self._check_worth(key, worth)
        self._cache.setdefault(key, []).append(worth)

    def waiting(self):
        """The ascending list of pairs of a key and how many worths wait for its word."""
        return [(key, len(self._cache[key])) for key in sorted(self._cache)]

    def waits_for(self, key):
        """How many worths wait for a word, given by a right key."""
        return len(self._cache.get(key, []))

    def reach(self, key):
        """Lets the eldest worth that waits for a word reach the disk."""
        self._check_key(key)
        if key not in self._cache:
            raise NothingWaits()
        self._words[key] = self._cache[key].pop(0)
        if not self._cache[key]:
            del self._cache[key]

    def calm(self):
        """Lets all that waits come to the disk; how much that was."""
        for key in self._cache:
            self._words[key] = self._cache[key][-1]
        return self.cut()

    def cut(self):
        """Forgets all that waits; how much that was."""
        many = sum([len(self._cache[key]) for key in self._cache])
        self._cache = {}
        return many

    def word(self, key):
        """What is on the disk."""
        self._check_key(key)
        return self._words[key]

    def seen(self, key):
        """The youngest worth that waits, or what is on the disk if none does."""
        self._check_key(key)
        if key in self._cache:
            return self._cache[key][-1]
        return self._words[key]

    def lose(self, key):
        """Loses a word on the disk."""
        self._check_key(key)
        self._words[key] = LOST

    def spoil(self, key, worth):
        """Makes a word on the disk another one."""
        self._check_worth(key, worth)
        self._words[key] = worth

    def words(self):
        """The Words of the disk."""
        blocks = range(FREE + 1, self._blocks + 1)
        ups = [_place_in(self._words["up", block]) for block in blocks]
        lists = []
        for place in range(self._blocks + 1):
            lists.append((place == 0, *[self._is_listed(place, block) for block in blocks]))
        return Words(self._blocks, (0, *ups), tuple(lists))

    def copy(self):
        """A disk that is alike and goes on apart."""
        other = Disk(self._blocks)
        other._words = {key: self._words[key] for key in self._words}
        other._cache = {key: list(self._cache[key]) for key in self._cache}
        return other

    def _is_listed(self, place, block):
        if place == block:
            return False
        name = self._words["lists", place, block]
        return None if name == LOST else name is not None

    def _check_key(self, key):
        if not _is_key(self._blocks, key):
            raise NoWord()

    def _check_worth(self, key, worth):
        self._check_key(key)
        if not _is_worth(self._blocks, key, worth):
            raise NoWorth()


def _place_in(up):
    return None if up == LOST else up[0]


def _new_words(blocks):
    """The words of a new disk by their keys, which ascend."""
    used = range(FREE + 1, blocks + 1)
    words = {}
    for block in used:
        words["body", block] = None
    for place in range(blocks + 1):
        for block in used:
            if place != block:
                words["lists", place, block] = "" if place == FREE else None
    for block in used:
        words["up", block] = (FREE, "")
    return words


def _is_key(blocks, thing):
    if not isinstance(thing, tuple) or not 2 <= len(thing) <= 3:
        return False
    # A flag in the place of a number is equal to it, so the keys are not just looked up.
    if not is_within(FREE + 1, blocks, thing[-1]):
        return False
    if len(thing) == 2:
        return thing[0] == "up" or thing[0] == "body"
    return thing[0] == "lists" and is_within(0, blocks, thing[1]) and thing[1] != thing[2]


def _is_worth(blocks, key, thing):
    """Whether a thing can be the worth of the word with a right key."""
    if key[0] == "up":
        return _is_up(blocks, key[1], thing)
    if thing is None:
        return True
    if key[0] == "lists":
        return _is_label(thing)
    return is_text(MOST_TEXT, thing)


def _is_up(blocks, block, thing):
    if not is_pair(thing) or not is_within(0, blocks, thing[0]):
        return False
    return thing[0] != block and _is_label(thing[1])


def _is_label(thing):
    """Whether a thing is a name, be it "", by which what hangs under block 1 is called."""
    return thing == "" or is_name(thing)

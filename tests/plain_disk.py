"""A disk kept as plain rows, and what is told of it, reckoned word by word (7, 8)."""

import collections
import itertools

from foldervotes.disk import Disk

LOST = ("lost",)


def keys_of(blocks):
    """All keys of a disk, as the document lists them, ascending."""
    used, places = range(2, blocks + 1), range(blocks + 1)
    return sorted([("up", block) for block in used] + [("body", block) for block in used]
                  + [("lists", place, block) for place in places for block in used
                     if place != block])


class PlainDisk:
    """What is on a disk, and the row of all that was written and waits."""

    def __init__(self, blocks):
        self.blocks = blocks
        self.words = {}
        for key in keys_of(blocks):
            self.words[key] = {"up": (1, ""), "body": None}.get(
                key[0], "" if key[1] == 1 else None)
        self.row = []

    def write(self, key, worth):
        self.row.append((key, worth))

    def waiting(self):
        return sorted(collections.Counter(key for key, _ in self.row).items())

    def reach(self, key):
        at = [other for other, _ in self.row].index(key)
        self.words[key] = self.row.pop(at)[1]

    def calm(self):
        many = len(self.row)
        while self.row:
            self.reach(self.row[0][0])
        return many

    def cut(self):
        many = len(self.row)
        self.row = []
        return many

    def seen(self, key):
        return ([self.words[key]] + [worth for other, worth in self.row if other == key])[-1]

    def copy(self):
        other = PlainDisk(self.blocks)
        other.words, other.row = dict(self.words), list(self.row)
        return other


def check_same(test, disk, plain):
    """Checks that a disk and a plain one tell the same."""
    test.assertEqual(disk.size(), plain.blocks)
    test.assertEqual(disk.all_keys(), sorted(plain.words))
    test.assertEqual({key: disk.word(key) for key in plain.words}, plain.words)
    test.assertEqual(disk.waiting(), plain.waiting())
    test.assertEqual({key: disk.seen(key) for key in plain.words},
                     {key: plain.seen(key) for key in plain.words})


def words_on(disk):
    """The dict of what is on a disk."""
    return {key: disk.word(key) for key in disk.all_keys()}


def state_of(disk):
    """All that a disk tells: what is on it, and what waits, worth by worth."""
    other, waits = disk.copy(), []
    for key, many in disk.waiting():
        for _ in range(many):
            other.reach(key)
            waits.append((key, other.word(key)))
    return words_on(disk), waits


def disk_of(blocks, words):
    """A disk on which are just these words, and nothing waits."""
    disk = Disk(blocks)
    for key, worth in words.items():
        if worth == LOST:
            disk.lose(key)
        else:
            disk.spoil(key, worth)
    return disk


def words_told(hung, names, bodies):
    """The words of a disk on which blocks hang so, are called so, and have these bodies."""
    words = {}
    for key in keys_of(len(hung)):
        at = key[-1] - 1
        if key[0] == "up":
            words[key] = hung[at], names[at]
        elif key[0] == "lists":
            words[key] = names[at] if hung[at] == key[1] else None
        else:
            words[key] = bodies[at]
    return words


def wrong_at(words, blocks, block, place):
    """How many words on a disk are wrong if a block, not the first, hangs at a place."""
    up = words["up", block]
    wrong = int(up != LOST and up[0] != place)
    for other in range(blocks + 1):
        if other != block:
            listed = words["lists", other, block]
            if listed != LOST and (listed is not None) != (other == place):
                wrong += 1
    return wrong


def plain_hung(words, blocks):
    """Where the votes of words hang the blocks."""
    hung = [0]
    for block in range(2, blocks + 1):
        costs = {place: wrong_at(words, blocks, block, place)
                 for place in range(blocks + 1) if place != block}
        best = sorted(place for place in costs if costs[place] == min(costs.values()))
        up = words["up", block]
        hung.append(up[0] if up != LOST and up[0] in best else best[0])
    return tuple(hung)


def plain_names(words, hung):
    """What blocks that hang so are called by words."""
    names = [""]
    for block, place in list(enumerate(hung, start=1))[1:]:
        name = ""
        if place != 1:
            up, listed = words["up", block], words["lists", place, block]
            if up != LOST and up[0] == place:
                name = up[1]
            elif listed not in (None, LOST):
                name = listed
        names.append(name)
    return tuple(names)


def plain_bodies(words, blocks):
    return (None, *[words["body", block] for block in range(2, blocks + 1)])


def rings_of(hung):
    """The rings of blocks that ties make, each an ascending tuple."""
    rings = set()
    for block in range(1, len(hung) + 1):
        way = [block]
        while way[-1] != 0 and way.count(way[-1]) == 1:
            way.append(hung[way[-1] - 1])
        if way[-1] != 0:
            rings.add(tuple(sorted(set(way[way.index(way[-1]):]))))
    return sorted(rings)


def twice_of(hung, names):
    """The pairs of a place, not block 1, and a name that two blocks there have, ascending."""
    ends = [(hung[at], names[at]) for at in range(1, len(hung)) if hung[at] != 1]
    return sorted({end for end in ends if ends.count(end) > 1})


def plain_mounted(words, blocks):
    """What is mounted of words, or the error: its name and what it has."""
    hung = plain_hung(words, blocks)
    if rings_of(hung):
        return "RingTold", rings_of(hung)[0]
    names = plain_names(words, hung)
    if twice_of(hung, names):
        return ("NameTwice", *twice_of(hung, names)[0])
    return hung, names, plain_bodies(words, blocks)


def all_reached(disk):
    """Copies of a disk on which each way of what waits reached it, without what waits then."""
    waiting = disk.waiting()
    for counts in itertools.product(*[range(many + 1) for _, many in waiting]):
        other = disk.copy()
        for (key, _), many in zip(waiting, counts):
            for _ in range(many):
                other.reach(key)
        other.cut()
        yield other


def some_reached(chance, disk):
    """A copy of a disk that some of what waits reached by chance, and the rest is gone."""
    other = disk.copy()
    likely = chance.choice([0.1, 0.5, 0.9])
    for key, many in disk.waiting():
        for _ in range(many):
            if chance.random() < likely:
                other.reach(key)
    other.cut()
    return other


def scribble_on(chance, disk, many, lost=0.5):
    """Loses or spoils so many words of a disk by chance."""
    names = ["", "a", "b", "abcdefgh"]
    for _ in range(many):
        key = chance.choice(disk.all_keys())
        if chance.random() < lost:
            disk.lose(key)
        elif key[0] == "up":
            places = [place for place in range(disk.size() + 1) if place != key[1]]
            disk.spoil(key, (chance.choice(places), chance.choice(names)))
        elif key[0] == "lists":
            disk.spoil(key, chance.choice([None, *names]))
        else:
            disk.spoil(key, chance.choice([None, "", "some text"]))

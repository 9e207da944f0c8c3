"""What hangs where, by which name, with which body, by the words of a disk (8)."""

from foldervotes.disk import FREE, LOST
from foldervotes.errors import NameTwice, RingTold
from foldervotes.nests import cheapest
from foldervotes.signs import least_names
from foldervotes.trees import Tree
from foldervotes.words import votes


def mounted(disk):
    """The tree, names and bodies that the votes of a disk tell."""
    hung = _hung_by_votes(disk)
    ring = _least_ring(hung)
    if ring is not None:
        raise RingTold(ring)
    names = _names_told(disk, hung)
    twice = _least_twice(hung, names)
    if twice is not None:
        raise NameTwice(twice[0], twice[1])
    return Tree(hung), names, _bodies_told(disk)


def _hung_by_votes(disk):
    words = disk.words()
    hung = []
    for up, (_, places) in zip(words.ups, votes(words)):
        hung.append(up if up in places else places[0])
    return tuple(hung)


def _least_ring(hung):
    """The blocks, ascending, of the ring that has the least block, or None."""
    for block in range(1, len(hung) + 1):
        way = [block]
        # What does not come back in so many steps is in no ring.
        while len(way) <= len(hung) and hung[way[-1] - 1] not in (0, block):
            way.append(hung[way[-1] - 1])
        if hung[way[-1] - 1] == block:
            return tuple(sorted(way))
    return None


def _names_told(disk, hung):
    return tuple([_name_told(disk, block, place) for block, place in enumerate(hung, start=1)])


def _name_told(disk, block, place):
    if block == FREE or place == FREE:
        return ""
    up = disk.word(("up", block))
    if up != LOST and up[0] == place:
        return up[1]
    listed = disk.word(("lists", place, block))
    return "" if listed is None or listed == LOST else listed


def _least_twice(hung, names):
    """The least pair of a place and a name that two blocks have there, or None."""
    ends = sorted([(place, name) for block, (place, name) in enumerate(zip(hung, names), start=1)
                   if block != FREE and place != FREE])
    for end, other in zip(ends, ends[1:]):
        if end == other:
            return end
    return None


def _bodies_told(disk):
    blocks = range(FREE + 1, disk.size() + 1)
    return (None, *[disk.word(("body", block)) for block in blocks])


def salvaged(disk):
    """A tree with the fewest wrong words, with names and bodies that will do."""
    _, tree = cheapest(disk.words())
    names = list(_names_told(disk, tree.hung))
    for place in range(disk.size() + 1):
        if place != FREE:
            _part_names(tree.hung, place, names)
    bodies = list(_bodies_told(disk))
    for at, body in enumerate(_bodies_told(disk)):
        if at + 1 in tree.hung:
            bodies[at] = None
        elif body == LOST:
            bodies[at] = ""
    return tree, tuple(names), tuple(bodies)


def _part_names(hung, place, names):
    """Gives the blocks under a place unlike names where they have one, or none."""
    blocks = [block for block, at in enumerate(hung, start=1) if at == place and block != FREE]
    kept = {"": FREE}
    for block in blocks:
        kept.setdefault(names[block - 1], block)
    others = [block for block in blocks if kept[names[block - 1]] != block]
    for block, name in zip(others, least_names(len(others), kept)):
        names[block - 1] = name


def worth_told(hung, names, bodies, key):
    """The worth that the word of a key has, by where blocks hang, their names and bodies."""
    at = key[-1] - 1
    if key[0] == "up":
        return hung[at], names[at]
    if key[0] == "lists":
        return names[at] if hung[at] == key[1] else None
    return bodies[at]

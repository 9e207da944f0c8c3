"""The blocks of a mounted disk, and the deeds by which their words are written (9)."""

from foldervotes.disk import FREE, LOST
from foldervotes.errors import BadBody, Beneath, NoBlocks
from foldervotes.mount import mounted, worth_told
from foldervotes.since import Since
from foldervotes.trees import beneath


class Keeper:
    """Where each block hangs, what it is called, and its body; that of block k at k - 1.

    `many_calms` tells how often it calmed its disk, but for the calm with which it began.
    """

    def __init__(self, disk):
        tree, names, bodies = mounted(disk)
        freed = beneath(tree, FREE)
        _check_bodies(tree.hung, names, bodies, freed)
        self.disk = disk
        self.hung = list(tree.hung)
        self.names = list(names)
        self.bodies = list(bodies)
        for block in freed:
            self.hung[block - 1] = FREE
            self.names[block - 1] = ""
            self.bodies[block - 1] = None
        self._write(disk.all_keys())
        disk.calm()
        self.since = Since(self.hung, self.names)
        self.many_calms = 0

    def told(self, key):
        """The worth that the word of a key should have."""
        return worth_told(self.hung, self.names, self.bodies, key)

    def under(self, place):
        """The blocks under a place, without block 1, ascending."""
        return [block for block, at in enumerate(self.hung, start=1)
                if at == place and block != FREE]

    def child(self, place, name):
        """The block under a place that has a name, or None."""
        for block in self.under(place):
            if self.names[block - 1] == name:
                return block
        return None

    def body(self, block):
        """The text of a file; None for a folder, the head among them."""
        return None if block == 0 else self.bodies[block - 1]

    def calm(self):
        """Calms the disk; what was had begins anew with what is."""
        self.disk.calm()
        self.many_calms += 1
        self.since = Since(self.hung, self.names)

    def take(self, place, name, body):
        """Hangs a free block under a place, with a name and a body."""
        if not self.under(FREE):
            raise NoBlocks()
        unused = self.since.unused()
        if not unused or self.since.wants_calm(unused[0], place, name):
            self.calm()
        # A calm may leave a lesser block than it found.
        block = self.since.unused()[0]
        self.set_body(block, body)
        self._hang(block, place, name)

    def move(self, block, place, name):
        """Hangs a block under another place, or by another name."""
        if self._is_above(block, place):
            raise Beneath()
        self._calm_ahead(block, place, name)
        self._hang(block, place, name)

    def give_back(self, block):
        """Hangs a block under block 1."""
        self._calm_ahead(block, FREE, "")
        self.set_body(block, None)
        self._hang(block, FREE, "")

    def set_body(self, block, body):
        """Gives a block a body."""
        self.bodies[block - 1] = body
        self._write([("body", block)])

    def _calm_ahead(self, block, place, name):
        if self.since.wants_calm(block, place, name):
            self.calm()

    def _hang(self, block, place, name):
        elder = self.hung[block - 1]
        self.hung[block - 1] = place
        self.names[block - 1] = name
        self.since.add_tie(block, place, name)
        self._write([("up", block), ("lists", elder, block), ("lists", place, block)])

    def _write(self, keys):
        """Writes the words of some keys, each if it is another one than seen."""
        for key in keys:
            worth = self.told(key)
            if self.disk.seen(key) != worth:
                self.disk.write(key, worth)

    def _is_above(self, block, place):
        """Whether a block is a place, or a parent of it."""
        while place not in (0, block):
            place = self.hung[place - 1]
        return place == block


def _check_bodies(hung, names, bodies, freed):
    for block in range(FREE + 1, len(hung) + 1):
        body = bodies[block - 1]
        text_above = body is not None and block in hung
        if block not in freed and (names[block - 1] == "" or body == LOST or text_above):
            raise BadBody(block)

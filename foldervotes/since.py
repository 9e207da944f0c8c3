"""The ties that blocks had since a calm, and when a new one wants a calm ahead of it (9.2)."""

from foldervotes.disk import FREE


class Since:
    """For each block the places that it had, for each place and name the block that had it.

    No two blocks had one name under one place but block 1, as a calm comes ahead of that;
    the names there are not kept.
    """

    def __init__(self, hung, names):
        self.places = {}
        self.holders = {}
        for block, (place, name) in enumerate(zip(hung, names), start=1):
            self.places[block] = []
            self.add_tie(block, place, name)

    def add_tie(self, block, place, name):
        """Tells that a block hangs under a place by a name now."""
        if place not in self.places[block]:
            self.places[block].append(place)
        if place != FREE:
            self.holders[place, name] = block

    def unused(self):
        """The blocks that hung under block 1 all the time, ascending."""
        return [block for block in self.places if self.places[block] == [FREE]]

    def wants_calm(self, block, place, name):
        """Whether a new tie, with those that were had, could do harm behind a cut."""
        if self.holders.get((place, name), block) != block:
            return True
        return self._makes_ring(block, place) or self._leads_used_to_free(block, place)

    def _makes_ring(self, block, place):
        """Whether ties lead from a place up to a block that would hang there."""
        return block in _reached(self.places, [place])

    def _leads_used_to_free(self, block, place):
        """Whether, with a new tie, a block leads to block 1 that never hung under it."""
        under = {other: [] for other in range(len(self.places) + 1)}
        for other in self.places:
            for above in self.places[other]:
                under[above].append(other)
        if block not in under[place]:
            under[place].append(block)
        return len(_reached(under, under[FREE])) > len(under[FREE])


def _reached(ways, begin):
    """The dict of all to which ways lead from unlike ones, these too."""
    reached = {one: True for one in begin}
    left = list(begin)
    while left:
        one = left.pop()
        for other in ways.get(one, []):
            if other not in reached:
                reached[other] = True
                left.append(other)
    return reached

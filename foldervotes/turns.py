"""Words that reach a disk turn and turn about (11.1)."""


class Turns:
    """Lets words that wait reach a disk, each time from the one behind the last one on."""

    def __init__(self, disk):
        self._disk = disk
        # Ahead of all keys.
        self._last = ()

    def reach(self, most):
        """Lets words that wait reach the disk, at most so often; how often some did."""
        many = 0
        keys = self._next_keys()
        while many < most and keys:
            for key in keys[:most - many]:
                self._disk.reach(key)
                self._last = key
                many += 1
            keys = self._next_keys()
        return many

    def _next_keys(self):
        """The keys of words that wait behind the last one, or of all if there are none."""
        keys = [key for key, _ in self._disk.waiting()]
        behind = [key for key in keys if key > self._last]
        return behind if behind else keys


def many_waiting(disk):
    """How many worths wait in all."""
    return sum([many for _, many in disk.waiting()])

"""A checker that goes beside a store, word by word (10)."""


class Checker:
    """Looks at one key behind the other, turn and turn about."""

    def __init__(self, store):
        self._store = store
        self._keys = store.disk().all_keys()
        self._at = 0

    def step(self):
        """Mends the next word, if need be: the pair of its key and what was there, or None."""
        key = self.next_key()
        self._at = self._at + 1 if self._at + 1 < len(self._keys) else 0
        disk = self._store.disk()
        there = disk.word(key)
        worth = self._store.told(key)
        if disk.waits_for(key) > 0 or there == worth:
            return None
        disk.write(key, worth)
        return key, there

    def round(self):
        """Looks at each key, from the next one on: the list of the pairs."""
        pairs = [self.step() for _ in self._keys]
        return [pair for pair in pairs if pair is not None]

    def next_key(self):
        """The key that is looked at next."""
        return self._keys[self._at]

"""What several files ask of objects of any kind (0.2)."""


def is_within(least, most, thing):
    """Whether a thing is an integer, no flag, from least to most."""
    if not isinstance(thing, int) or isinstance(thing, bool):
        return False
    return least <= thing <= most


def is_pair(thing):
    """Whether a thing is a tuple of two."""
    return isinstance(thing, tuple) and len(thing) == 2


def is_ascending(row):
    """Whether the items of a row, all of one kind, ascend, each once."""
    return all([row[at] < row[at + 1] for at in range(len(row) - 1)])


def is_lot_within(least, most, thing):
    """Whether a thing is a lot of integers from least to most."""
    if not isinstance(thing, tuple):
        return False
    if not all([is_within(least, most, part) for part in thing]):
        return False
    return is_ascending(thing)

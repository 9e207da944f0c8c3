"""What several files ask of objects of any kind (0.2)."""


def is_within(least, most, thing):
    """Whether a thing is an integer, no flag, from least to most."""
    if not isinstance(thing, int) or isinstance(thing, bool):
        return False
    return least <= thing <= most

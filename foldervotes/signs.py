"""Names and texts (7.1), and the least names that are left."""

LETTERS = "abcdefghijklmnopqrstuvwxyz"
MOST_NAME = 8


def is_name(thing):
    """Whether a thing is a name that is not "": 1 to 8 letters."""
    if not isinstance(thing, str) or not 1 <= len(thing) <= MOST_NAME:
        return False
    return all([sign in LETTERS for sign in thing])


def is_text(most, thing):
    """Whether a thing is a text of at most so many signs, letters and blanks."""
    if not isinstance(thing, str) or len(thing) > most:
        return False
    return all([sign == " " or sign in LETTERS for sign in thing])


def least_names(many, taken):
    """So many names, the least by length, then as texts, but those that are taken."""
    found = []
    number = 0
    while len(found) < many:
        name = _name_at(number)
        if name not in taken:
            found.append(name)
        number += 1
    return found


def _name_at(number):
    """The name of a number as names ascend by length, then as texts: 0 is "a", 26 "aa"."""
    signs = []
    # With so many letters less by one in front, names of each length begin at 0 again.
    left = number + 1
    while left > 0:
        left, at = divmod(left - 1, len(LETTERS))
        signs.append(LETTERS[at])
    return "".join(signs[::-1])

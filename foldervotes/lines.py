"""Lines of words, by their forms, and what is told to them (11, 13)."""

from foldervotes.errors import VoteError
from foldervotes.signs import is_name

DIGITS = "0123456789"
MOST_FIGURES = 6


def first_word(line):
    """The first word of a line, "" for what is no line."""
    if not isinstance(line, str) or "\n" in line:
        return ""
    return line.partition(" ")[0]


def words_behind(kinds, line):
    """The words of a line behind its first one, or None if they are not just of these kinds.

    There is one blank ahead of each; a "text" is all that stands behind its blank.
    """
    _, blank, rest = line.partition(" ")
    words = []
    for kind in kinds:
        word = rest
        if blank == "":
            return None
        blank = ""
        if kind != "text":
            word, blank, rest = rest.partition(" ")
        if not _is_of_kind(kind, word):
            return None
        words.append(word)
    return words if blank == "" else None


def _is_of_kind(kind, word):
    if kind == "path":
        return word != ""
    if kind == "name":
        return is_name(word)
    return kind == "text" or _is_short_number(word)


def _is_short_number(word):
    """Whether a word is a number of a few figures without a needless 0."""
    if not 1 <= len(word) <= MOST_FIGURES:
        return False
    return word == "0" or word[0] != "0" and all([sign in DIGITS for sign in word])


def joined_or_none(names):
    """Names with blanks between, or "none" if there are none."""
    return " ".join(names) if names else "none"


def is_lines(thing):
    """Whether a thing is a list or tuple of strings."""
    return isinstance(thing, (list, tuple)) and all([isinstance(line, str) for line in thing])


def told_to_lines(teller, lines):
    """What a shell or a desk tells to lines, an error's name in parentheses where it raises one."""
    return [_told_to_line(teller, line) for line in lines]


def _told_to_line(teller, line):
    try:
        return teller.tell(line)
    except VoteError as error:
        return f"({str(error)})"

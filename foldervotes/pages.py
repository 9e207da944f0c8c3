"""How texts lie in files: pieces, the index and its parts (12.1)."""

from foldervotes.signs import is_name

MOST_SIGNS = 400
PIECE_SIGNS = 40
PART_SIGNS = 31
# The letter for each number of pieces, from 0 on.
COUNTS = "abcdefghijk"


class Pages:
    """The texts of a book by names, the names of their pieces' files, and of the parts'."""

    def __init__(self, texts, files, parts):
        self.texts = {name: texts[name] for name in sorted(texts)}
        self.files = {name: list(files[name]) for name in self.texts}
        self.parts = list(parts)

    def root(self):
        """The text of the root's file: the name of the first part's file, or ""."""
        return self.parts[0] if self.parts else ""

    def all_files(self):
        """The dict of the names of all files of pieces and parts."""
        used = {name: True for name in self.parts}
        for text in self.files:
            for name in self.files[text]:
                used[name] = True
        return used


def runs_of(signs, most):
    """The runs of so many signs each, the last one perhaps shorter."""
    return [signs[at:at + most] for at in range(0, len(signs), most)]


def pieces_of(text):
    """The pieces of a text."""
    return runs_of(text, PIECE_SIGNS)


def parts_of(files):
    """The signs of each part of the index of files by the names of their texts."""
    return runs_of(_index_of(files), PART_SIGNS)


def _index_of(files):
    words = []
    for name in sorted(files):
        words.extend([name, COUNTS[len(files[name])]])
        words.extend(files[name])
    return " ".join(words)


def files_in(index):
    """The dict from the names of texts to their files that an index tells, or None."""
    words = index.split(" ")
    if not all([is_name(word) for word in words]):
        return None
    files = {}
    last = ""
    at = 0
    while at < len(words):
        name = words[at]
        many = _count_told(words[at + 1:at + 2])
        behind = at + 2 + many
        if many < 0 or behind > len(words) or name <= last:
            return None
        files[name] = words[at + 2:behind]
        last = name
        at = behind
    return files


def _count_told(words):
    """The number of pieces that a word tells; -1 if it is no such letter, or is missing."""
    if words == [] or len(words[0]) > 1:
        return -1
    return COUNTS.find(words[0])


def part_text(following, signs):
    """The text of a part's file, with the name of the one that follows, or its own."""
    return following + " " + signs


def part_in(own, text):
    """The pair of the name that follows a part, and its signs; None for no text of a part."""
    following, _, signs = text.partition(" ")
    if not is_name(following) or not 1 <= len(signs) <= PART_SIGNS:
        return None
    if following != own and len(signs) < PART_SIGNS:
        return None
    return following, signs

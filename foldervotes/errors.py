"""All errors of the package (0.3).

An error is made with just its fields and keeps them as passed, whatever they are.
"""


class VoteError(ValueError):
    """The base of all errors of this package; what it says is the name of its class."""

    def __str__(self):
        return str(self.__class__.__name__)


class BadTree(VoteError):
    """A tuple is no tree: part is "hung", a block, or ("ring", block)."""

    def __init__(self, part):
        self.part = part


class NoBlock(VoteError):
    """What should be a block is none."""

    def __init__(self):
        super().__init__()


class NoPlace(VoteError):
    """What should be a place is none."""

    def __init__(self):
        super().__init__()


class Beneath(VoteError):
    """A thing would hang under itself, or under what is beneath it."""

    def __init__(self):
        super().__init__()


class NoOrder(VoteError):
    """What should be an order of all blocks is none."""

    def __init__(self):
        super().__init__()


class NoView(VoteError):
    """What should be a view is none, or one that will not do."""

    def __init__(self):
        super().__init__()


class OtherBlocks(VoteError):
    """Two things have unlike numbers of blocks."""

    def __init__(self):
        super().__init__()


class NoNumber(VoteError):
    """What should be a number, within its limits, is none."""

    def __init__(self):
        super().__init__()


class BadPicture(VoteError):
    """These are no picture: part is "view", "blocks", "told", or a place."""

    def __init__(self, part):
        self.part = part


class NoLot(VoteError):
    """What should be a lot of blocks is none."""

    def __init__(self):
        super().__init__()


class NoTree(VoteError):
    """No tree fits the picture."""

    def __init__(self):
        super().__init__()


class NotFitting(VoteError):
    """A tree does not fit the picture."""

    def __init__(self):
        super().__init__()


class NoTelling(VoteError):
    """No tree that fits tells this there."""

    def __init__(self):
        super().__init__()


class TooMany(VoteError):
    """There are more than the most that can be done."""

    def __init__(self, most):
        self.most = most


class BadWords(VoteError):
    """These are no words: part is "blocks", "ups", "lists", a block, (place,) or a pair."""

    def __init__(self, part):
        self.part = part


class BadHistory(VoteError):
    """This is no history: part is "tree", "moves", or the index of a move."""

    def __init__(self, part):
        self.part = part


class NoWord(VoteError):
    """What should be the key of a word is none."""

    def __init__(self):
        super().__init__()


class NoWorth(VoteError):
    """A word can't have this worth."""

    def __init__(self):
        super().__init__()


class NothingWaits(VoteError):
    """Nothing waits for this word."""

    def __init__(self):
        super().__init__()


class RingTold(VoteError):
    """The votes make a ring of these blocks."""

    def __init__(self, blocks):
        self.blocks = blocks


class NameTwice(VoteError):
    """Two blocks under one place have one name."""

    def __init__(self, place, name):
        self.place = place
        self.name = name


class BadBody(VoteError):
    """The body of this block can't be right."""

    def __init__(self, block):
        self.block = block


class NoPath(VoteError):
    """What should be a path is none, or the head's where that will not do."""

    def __init__(self, path):
        self.path = path


class NotThere(VoteError):
    """Nothing is at a path: path is its longest beginning at which something is."""

    def __init__(self, path):
        self.path = path


class NotFolder(VoteError):
    """What is at this path is no folder."""

    def __init__(self, path):
        self.path = path


class NotFile(VoteError):
    """What is at this path is no file."""

    def __init__(self, path):
        self.path = path


class TakenPath(VoteError):
    """Something is at this path already."""

    def __init__(self, path):
        self.path = path


class NoText(VoteError):
    """What should be a text is none."""

    def __init__(self):
        super().__init__()


class NotEmpty(VoteError):
    """The folder at this path is not empty."""

    def __init__(self, path):
        self.path = path


class NoBlocks(VoteError):
    """There are too few free blocks."""

    def __init__(self):
        super().__init__()


class NoLine(VoteError):
    """A line has none of the forms."""

    def __init__(self):
        super().__init__()


class NoLines(VoteError):
    """What should be lines is no list or tuple of strings."""

    def __init__(self):
        super().__init__()


class BadText(VoteError):
    """The line of this number in a text has none of the forms."""

    def __init__(self, line):
        self.line = line


class BadBook(VoteError):
    """The book can't be read for what is, or is not, at this path."""

    def __init__(self, path):
        self.path = path


class NotKept(VoteError):
    """No text of this name is kept."""

    def __init__(self, name):
        self.name = name


class NoChanges(VoteError):
    """What should be changes of texts are none."""

    def __init__(self):
        super().__init__()


class UnderWay(VoteError):
    """A commit is under way."""

    def __init__(self):
        super().__init__()


class NotUnderWay(VoteError):
    """No commit is under way."""

    def __init__(self):
        super().__init__()

"""Pictures: what can be read of a tree (3.1)."""

from foldervotes.errors import BadPicture, NoLot, NoView
from foldervotes.kinds import is_ascending, is_lot_within, is_pair, is_within
from foldervotes.trees import MOST_BLOCKS, Tree
from foldervotes.views import is_view, telling


class Picture:
    """Tellings, in a view, of the head and of some of so many blocks."""

    def __init__(self, view, blocks, told):
        if not is_view(view):
            raise BadPicture("view")
        if not is_within(1, MOST_BLOCKS, blocks):
            raise BadPicture("blocks")
        if not _tells_places(blocks, told):
            raise BadPicture("told")
        for place in sorted(told):
            if not is_formed(view, blocks, place, told[place]):
                raise BadPicture(place)
        self.view = view
        self.blocks = blocks
        self.told = dict(told)

    def __eq__(self, other):
        if not isinstance(other, Picture):
            return False
        return (self.view, self.blocks) == (other.view, other.blocks) and self.told == other.told


def _tells_places(blocks, thing):
    if not isinstance(thing, dict):
        return False
    return all([is_within(0, blocks, place) for place in thing]) and 0 in thing


def is_formed(view, blocks, place, thing):
    """Whether a thing has the form of what a place of so many blocks tells in a view."""
    if not is_pair(thing):
        return False
    row, ties = thing
    most = 0 if place == 0 else view[0]
    return _is_row(most, blocks, row) and _is_lot_of_ties(blocks, ties)


def _is_row(most, blocks, thing):
    if not isinstance(thing, tuple) or len(thing) > most:
        return False
    return all([is_within(0, blocks, place) for place in thing])


def _is_lot_of_ties(blocks, thing):
    if not isinstance(thing, tuple):
        return False
    return all([_is_tie(blocks, tie) for tie in thing]) and is_ascending(thing)


def _is_tie(blocks, thing):
    return is_pair(thing) and is_within(1, blocks, thing[0]) and is_within(0, blocks, thing[1])


def seen(tree, view, lost):
    """The picture of a tree of which a lot of blocks is lost."""
    if not is_view(view):
        raise NoView()
    blocks = len(tree.hung)
    if not is_lot_within(1, blocks, lost):
        raise NoLot()
    left = [place for place in range(blocks + 1) if place not in lost]
    return Picture(view, blocks, {place: telling(tree, view, place) for place in left})


def is_fitting(picture, thing):
    """Whether a thing is a tree that tells just what the picture has."""
    if not isinstance(thing, Tree) or len(thing.hung) != picture.blocks:
        return False
    return all([telling(thing, picture.view, place) == picture.told[place]
                for place in picture.told])


def lost_blocks(picture):
    """The blocks of which the picture has no telling, ascending."""
    return [block for block in range(1, picture.blocks + 1) if block not in picture.told]

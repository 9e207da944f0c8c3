"""Trees of blocks under a head (1)."""

from foldervotes.errors import BadTree, Beneath, NoBlock, NoOrder, NoPlace
from foldervotes.kinds import is_within

MOST_BLOCKS = 40


class Tree:
    """For each block the place under which it hangs, that of block k at index k - 1."""

    def __init__(self, hung):
        if not isinstance(hung, tuple) or not 1 <= len(hung) <= MOST_BLOCKS:
            raise BadTree("hung")
        for block, place in enumerate(hung, start=1):
            if not is_within(0, len(hung), place) or place == block:
                raise BadTree(block)
        for block in range(1, len(hung) + 1):
            if not _comes_to_head(hung, block):
                raise BadTree(("ring", block))
        self.hung = hung

    def __eq__(self, other):
        return isinstance(other, Tree) and self.hung == other.hung


def _comes_to_head(hung, block):
    place = block
    steps = 0
    # A way without a ring has no more steps than there are blocks.
    while place != 0 and steps < len(hung):
        place = hung[place - 1]
        steps += 1
    return place == 0


def is_block(tree, thing):
    """Whether a thing is a block of the tree."""
    return is_within(1, len(tree.hung), thing)


def is_place(tree, thing):
    """Whether a thing is a place of the tree: a block or the head."""
    return is_within(0, len(tree.hung), thing)


def place_of(tree, block):
    """The place under which a block hangs."""
    if not is_block(tree, block):
        raise NoBlock()
    return tree.hung[block - 1]


def parents(tree, block):
    """The places above a block, nearest first, the head last."""
    above = [place_of(tree, block)]
    while above[-1] != 0:
        above.append(place_of(tree, above[-1]))
    return tuple(above)


def under(tree, place):
    """The lot of blocks that hang under a place."""
    if not is_place(tree, place):
        raise NoPlace()
    return tuple([block for block, at in enumerate(tree.hung, start=1) if at == place])


def beneath(tree, place):
    """The lot of all blocks of which a place is a parent."""
    if not is_place(tree, place):
        raise NoPlace()
    blocks = range(1, len(tree.hung) + 1)
    return tuple([block for block in blocks if place in parents(tree, block)])


def moved(tree, block, place):
    """The tree in which a block hangs under a place, with all beneath it."""
    if not is_block(tree, block):
        raise NoBlock()
    if not is_place(tree, place):
        raise NoPlace()
    if place == block or place in beneath(tree, block):
        raise Beneath()
    return Tree(tree.hung[:block - 1] + (place,) + tree.hung[block:])


def called(tree, order):
    """The tree in which block k is called order[k - 1]."""
    if not _is_order(tree, order):
        raise NoOrder()
    # The head keeps its name.
    names = (0, *order)
    hung = [0] * len(order)
    for block, place in enumerate(tree.hung, start=1):
        hung[names[block] - 1] = names[place]
    return Tree(tuple(hung))


def _is_order(tree, thing):
    if not isinstance(thing, tuple):
        return False
    if not all([is_block(tree, block) for block in thing]):
        return False
    return sorted(thing) == list(range(1, len(tree.hung) + 1))

"""Pictures that are wrong at blocks that nobody knows (4.2, 4.3)."""

from itertools import combinations

from foldervotes.codes import hung_of_number, many_of
from foldervotes.errors import NotFitting, OtherBlocks, TooMany
from foldervotes.forests import forest_of
from foldervotes.pictures import lost_blocks
from foldervotes.trees import Tree
from foldervotes.views import distance, telling

MOST_BLOCKS_TRIED = 10
MOST_NEAREST = 1000


def wrong(picture, tree):
    """The lot of blocks that tell otherwise than a tree."""
    if not isinstance(tree, Tree) or len(tree.hung) != picture.blocks:
        raise OtherBlocks()
    unlike = [place for place in sorted(picture.told)
              if telling(tree, picture.view, place) != picture.told[place]]
    if 0 in unlike:
        raise NotFitting()
    return tuple(unlike)


def mended(picture):
    """The tree that was, if few enough blocks are wrong and lost, else None."""
    left = distance(picture.view) - len(lost_blocks(picture))
    blocks = _blocks_told(picture)
    # The wrong ones may as well be lost; as few lost ones leave one tree, if any.
    for many in range(len(blocks) + 1):
        if 2 * many >= left:
            return None
        for gone in combinations(blocks, many):
            forest = _forest_without(picture, gone)
            if forest is not None:
                return Tree(hung_of_number(forest, 0))
    return None


def _blocks_told(picture):
    return [place for place in sorted(picture.told) if place != 0]


def _forest_without(picture, gone):
    told = {place: picture.told[place] for place in picture.told if place not in gone}
    return forest_of(picture.view, picture.blocks, told)


def nearest(picture):
    """The ascending list of all trees at which as few blocks as can be are wrong."""
    _, forests = _nearest_forests(picture)
    hungs = [hung_of_number(forest, number)
             for forest in forests for number in range(many_of(forest))]
    return [Tree(hung) for hung in sorted(hungs)]


def least_wrong(picture):
    """How many blocks are wrong at the nearest trees, or None if there are none."""
    many, _ = _nearest_forests(picture)
    return many


def _nearest_forests(picture):
    """How many blocks are wrong at least, or None, and the forests without such."""
    if picture.blocks > MOST_BLOCKS_TRIED:
        raise TooMany(MOST_BLOCKS_TRIED)
    blocks = _blocks_told(picture)
    for many in range(len(blocks) + 1):
        tried = [_forest_without(picture, gone) for gone in combinations(blocks, many)]
        forests = [forest for forest in tried if forest is not None]
        # At a tree of one of these all that is left out is wrong, as no fewer are:
        # so no tree is counted twice.
        if sum([many_of(forest) for forest in forests]) > MOST_NEAREST:
            raise TooMany(MOST_NEAREST)
        if forests:
            return many, forests
    return None, []

"""Which lost block to read next (4.1)."""

from foldervotes.codes import hung_of_number, many_of
from foldervotes.errors import NoBlock, NoNumber, NoTelling, NoView, TooMany
from foldervotes.forests import forest_of
from foldervotes.kinds import is_pair, is_within
from foldervotes.losses import forest_left
from foldervotes.pictures import Picture, is_formed, lost_blocks
from foldervotes.trees import MOST_BLOCKS, Tree
from foldervotes.views import telling

MOST_LOST = 8
MOST_TREES = 60


class Choices:
    """What the lost blocks of a picture tell in the trees that fit.

    Some of these trees are kept as the bits of a number, one bit for each tree; `parts`
    has for each lost block the dict from its tellings to the trees in which it tells so.
    """

    def __init__(self, picture, forest):
        many = many_of(forest)
        trees = [Tree(hung_of_number(forest, number)) for number in range(many)]
        self.all_trees = (1 << many) - 1
        self.parts = {}
        for block in lost_blocks(picture):
            part = {}
            for number, tree in enumerate(trees):
                told = telling(tree, picture.view, block)
                part[told] = part.get(told, 0) | 1 << number
            self.parts[block] = part
        self.found = {}

    def parted(self, trees, block):
        """The dict from all tellings of a block in some trees to these."""
        part = self.parts[block]
        return {told: part[told] & trees for told in part if part[told] & trees}

    def fewest(self, trees):
        """The fewest reads that come to one of some trees, at worst."""
        if is_one(trees):
            return 0
        if trees not in self.found:
            self.found[trees] = min([self.with_first(trees, block) for block in self.useful(trees)])
        return self.found[trees]

    def with_first(self, trees, block):
        """The fewest reads if this block is read first."""
        left = self.parted(trees, block)
        return 1 + max([self.fewest(left[told]) for told in left])

    def useful(self, trees):
        """The blocks that tell these trees apart."""
        return [block for block in self.parts if len(self.parted(trees, block)) > 1]


def is_one(trees):
    """Whether the bits of a number, not 0, are of one tree alone."""
    return trees & (trees - 1) == 0


def _forest_to_read(picture):
    forest = forest_left(picture)
    if picture.view == (0, 0):
        raise NoView()
    return forest


def _choices(picture, forest):
    if len(lost_blocks(picture)) > MOST_LOST:
        raise TooMany(MOST_LOST)
    if many_of(forest) > MOST_TREES:
        raise TooMany(MOST_TREES)
    return Choices(picture, forest)


def reads(picture):
    """The least number of reads with which some plan comes to one tree at worst."""
    choices = _choices(picture, _forest_to_read(picture))
    return choices.fewest(choices.all_trees)


def plan(picture):
    """A plan with so few reads."""
    choices = _choices(picture, _forest_to_read(picture))
    return _plan_for(choices, choices.all_trees)


def _plan_for(choices, trees):
    if is_one(trees):
        return None
    fewest = choices.fewest(trees)
    first = min([block for block in choices.useful(trees)
                 if choices.with_first(trees, block) == fewest])
    left = choices.parted(trees, first)
    return first, {told: _plan_for(choices, left[told]) for told in left}


def is_plan(picture, most, thing):
    """Whether a thing is a plan that never reads more than so many blocks."""
    forest = _forest_to_read(picture)
    if not isinstance(most, int) or isinstance(most, bool) or most < 0:
        raise NoNumber()
    choices = _choices(picture, forest)
    return _is_plan_for(choices, choices.all_trees, lost_blocks(picture), most, thing)


def _is_plan_for(choices, trees, lost, most, thing):
    if thing is None:
        return is_one(trees)
    if most == 0 or not is_pair(thing):
        return False
    block, plans = thing
    if not is_within(1, MOST_BLOCKS, block) or block not in lost:
        return False
    left = choices.parted(trees, block)
    if not isinstance(plans, dict) or len(plans) != len(left):
        return False
    if not all([told in plans for told in left]):
        return False
    others = [other for other in lost if other != block]
    return all([_is_plan_for(choices, left[told], others, most - 1, plans[told])
                for told in left])


def read(picture, block, thing):
    """The picture to which the telling of a lost block comes."""
    forest_left(picture)
    if not is_within(1, picture.blocks, block) or block in picture.told:
        raise NoBlock()
    if not is_formed(picture.view, picture.blocks, block, thing):
        raise NoTelling()
    told = {**picture.told, block: thing}
    if forest_of(picture.view, picture.blocks, told) is None:
        raise NoTelling()
    return Picture(picture.view, picture.blocks, told)

"""Words: each tie told at both ends, word by word, and the votes of them (5.1, 5.2)."""

from foldervotes.errors import BadWords, NoBlock, NoPlace, OtherBlocks
from foldervotes.kinds import is_within
from foldervotes.trees import MOST_BLOCKS, Tree


class Words:
    """For each block its place, for each place and block whether that lists this.

    A word that is lost is None.
    """

    def __init__(self, blocks, ups, lists):
        if not is_within(1, MOST_BLOCKS, blocks):
            raise BadWords("blocks")
        if not _is_tuple_of(blocks, ups):
            raise BadWords("ups")
        for block in range(1, blocks + 1):
            if not _is_up(blocks, block, ups[block - 1]):
                raise BadWords(block)
        if not _is_tuple_of(blocks + 1, lists):
            raise BadWords("lists")
        for place in range(blocks + 1):
            if not _is_tuple_of(blocks, lists[place]):
                raise BadWords((place,))
        for place in range(blocks + 1):
            for block in range(1, blocks + 1):
                if not _is_listing(place, block, lists[place][block - 1]):
                    raise BadWords((place, block))
        self.blocks = blocks
        self.ups = ups
        self.lists = lists

    def __eq__(self, other):
        if not isinstance(other, Words):
            return False
        return (self.blocks, self.ups, self.lists) == (other.blocks, other.ups, other.lists)


def _is_tuple_of(many, thing):
    return isinstance(thing, tuple) and len(thing) == many


def _is_up(blocks, block, thing):
    return thing is None or is_within(0, blocks, thing) and thing != block


def _is_listing(place, block, thing):
    if place == block:
        return thing is False
    return thing is None or isinstance(thing, bool)


def words_of(tree):
    """The right words of a tree."""
    return words_of_ups(tree.hung)


def words_of_ups(ups):
    """The words that tell at both ends of each block that it hangs under its place of ups."""
    places = range(len(ups) + 1)
    lists = [tuple([up == place for up in ups]) for place in places]
    return Words(len(ups), ups, tuple(lists))


def costs(words, block):
    """For each place, from the head on, how many words of a block are wrong if it hangs there.

    The item at the block itself is None.
    """
    up = words.ups[block - 1]
    listed = [of_place[block - 1] for of_place in words.lists]
    many = listed.count(True)
    found = []
    for place in range(words.blocks + 1):
        wrong = many - 1 if listed[place] is True else many
        if listed[place] is False:
            wrong += 1
        if up is not None and up != place:
            wrong += 1
        found.append(None if place == block else wrong)
    return found


def cost(words, block, place):
    """How many words of a block are wrong if it hangs under a place."""
    if not is_within(1, words.blocks, block):
        raise NoBlock()
    if not is_within(0, words.blocks, place) or place == block:
        raise NoPlace()
    return costs(words, block)[place]


def wrong_words(words, tree):
    """How many words are wrong if the blocks hang as in a tree."""
    if not isinstance(tree, Tree) or len(tree.hung) != words.blocks:
        raise OtherBlocks()
    return sum([cost(words, block, place) for block, place in enumerate(tree.hung, start=1)])


def votes(words):
    """By blocks, the least cost and the lot of places with it."""
    return [_vote(words, block) for block in range(1, words.blocks + 1)]


def _vote(words, block):
    by_place = costs(words, block)
    least = min([wrong for wrong in by_place if wrong is not None])
    return least, tuple([place for place, wrong in enumerate(by_place) if wrong == least])

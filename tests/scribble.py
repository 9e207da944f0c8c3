"""Words by chance, and the costs of words as the document says them, word by word."""

import itertools

from foldervotes.words import Words
from tests.small import all_trees


def right_words(hung):
    """What the words of a tree, or of ties that make a ring, are."""
    blocks = len(hung)
    return hung, tuple(tuple(hung[block - 1] == place for block in range(1, blocks + 1))
                       for place in range(blocks + 1))


def chance_words(chance, blocks, lost=0.2, listed=0.4):
    """Words of which each is lost, or one thing or another, by chance."""
    ups = tuple(None if chance.random() < lost else chance.choice(
        [place for place in range(blocks + 1) if place != block])
        for block in range(1, blocks + 1))
    lists = tuple(tuple(False if place == block else None if chance.random() < lost
                        else chance.random() < listed for block in range(1, blocks + 1))
                  for place in range(blocks + 1))
    return Words(blocks, ups, lists)


def scribbled(chance, tree, many):
    """The words of a tree of which some are lost or changed by chance."""
    blocks = len(tree.hung)
    ups, lists = right_words(tree.hung)
    ups, lists = list(ups), [list(line) for line in lists]
    for _ in range(many):
        block = chance.randint(1, blocks)
        places = [place for place in range(blocks + 1) if place != block]
        if chance.random() < 0.3:
            ups[block - 1] = chance.choice([None, *places])
        else:
            lists[chance.choice(places)][block - 1] = chance.choice([None, True, True, False])
    return Words(blocks, tuple(ups), tuple(map(tuple, lists)))


def wrong_of(words, block, place):
    """How many words of a block are wrong if it hangs at a place, counted word by word."""
    wrong = [words.ups[block - 1] not in (None, place)]
    for other in range(words.blocks + 1):
        if other == place:
            wrong.append(words.lists[other][block - 1] is False)
        elif other != block:
            wrong.append(words.lists[other][block - 1] is True)
    return sum(wrong)


def wrong_in(words, hung):
    """How many words are wrong in all."""
    return sum(wrong_of(words, block, place) for block, place in enumerate(hung, start=1))


def wrong_by_trees(words):
    """How many words are wrong at each tree, a list."""
    table = [[None if place == block else wrong_of(words, block, place)
              for place in range(words.blocks + 1)] for block in range(1, words.blocks + 1)]
    return [sum(row[place] for row, place in zip(table, tree.hung))
            for tree in all_trees(words.blocks)]


def all_words(blocks):
    """All words of so many blocks."""
    ups = [[None, *(place for place in range(blocks + 1) if place != block)]
           for block in range(1, blocks + 1)]
    lines = [list(itertools.product(*[[False] if place == block else [None, True, False]
                                      for block in range(1, blocks + 1)]))
             for place in range(blocks + 1)]
    for up in itertools.product(*ups):
        for lists in itertools.product(*lines):
            yield Words(blocks, up, lists)


SMALL_WORDS = [words for blocks in (1, 2) for words in all_words(blocks)]

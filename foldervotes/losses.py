"""All trees that a picture leaves: known ties, pieces, numbers, chances (3.2 to 3.4)."""

from math import gcd

from foldervotes.codes import (code_of, hung_of_number, many_of,
                               number_of_code)
from foldervotes.errors import NoBlock, NoNumber, NotFitting, NoTree
from foldervotes.forests import forest_of
from foldervotes.kinds import is_within
from foldervotes.pictures import is_fitting
from foldervotes.trees import Tree
from foldervotes.views import distance


def forest_left(picture):
    """The forest of a picture that some tree fits."""
    forest = forest_of(picture.view, picture.blocks, picture.told)
    if forest is None:
        raise NoTree()
    return forest


def known(picture):
    """The dict from blocks to places by known ties."""
    return dict(forest_left(picture).ties)


def pieces(picture):
    """The pieces into which known ties part the places, by tops, the head's first."""
    return list(forest_left(picture).pieces)


def open_places(picture):
    """For each piece the lot of its open places."""
    return list(forest_left(picture).open_places)


def many_trees(picture):
    """How many trees fit."""
    return many_of(forest_left(picture))


def code(picture, tree):
    """The places under which the tops hang in a tree that fits, in the order of striking."""
    forest = forest_left(picture)
    if not is_fitting(picture, tree):
        raise NotFitting()
    return code_of(forest, tree.hung)


def number_of(picture, tree):
    """The number of a tree that fits, as codes ascend."""
    return number_of_code(forest_left(picture), code(picture, tree))


def tree_at(picture, number):
    """The tree that fits and has a number."""
    forest = forest_left(picture)
    if not is_within(0, many_of(forest) - 1, number):
        raise NoNumber()
    return Tree(hung_of_number(forest, number))


def sure(picture):
    """The dict from the blocks that hang under one place in all trees that fit to it."""
    forest = forest_left(picture)
    found = {}
    for block in range(1, picture.blocks + 1):
        shares = _shares(forest, block)
        if len(shares) == 1:
            found[block] = list(shares)[0]
    return found


def chances(picture, block):
    """The dict from the places under which a block can hang to their shares of all trees."""
    forest = forest_left(picture)
    if not is_within(1, picture.blocks, block):
        raise NoBlock()
    return _shares(forest, block)


def _shares(forest, block):
    if block in forest.ties:
        return {forest.ties[block]: (1, 1)}
    at_head = forest.open_places[0]
    own = forest.open_places[forest.tops.index(block)]
    every = sorted([place for lot in forest.open_places for place in lot])
    shares = {}
    for place in every:
        if place in at_head:
            shares[place] = _fraction(len(at_head) + len(own), len(at_head) * len(every))
        elif place not in own:
            shares[place] = (1, len(every))
    return shares


def _fraction(top, bottom):
    both = gcd(top, bottom)
    return top // both, bottom // both


def always(view):
    """How many lost blocks, and how many wrong ones, are always mended, or None."""
    most = distance(view) - 1
    if most < 0:
        return None
    return most, most // 2

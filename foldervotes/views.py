"""Views, tellings, and how far apart trees are that the head tells alike (2)."""

from foldervotes.errors import NoNumber, NoPlace, NoView, OtherBlocks
from foldervotes.kinds import is_within
from foldervotes.trees import MOST_BLOCKS, Tree, is_place, parents, under

MOST_STEPS = 4


def is_view(thing):
    """Whether a thing is a pair (up, down) of numbers from 0 to 4."""
    if not isinstance(thing, tuple) or len(thing) != 2:
        return False
    return all([is_within(0, MOST_STEPS, steps) for steps in thing])


def telling(tree, view, place):
    """The pair (row, ties) that a place tells in a view."""
    if not is_view(view):
        raise NoView()
    if not is_place(tree, place):
        raise NoPlace()
    up, down = view
    return _row_told(tree, up, place), _ties_told(tree, down, place)


def _row_told(tree, up, place):
    if place == 0:
        return ()
    return parents(tree, place)[:up]


def _ties_told(tree, down, place):
    ties = []
    level = [place]
    for _ in range(down):
        next_ties = [(block, above) for above in level for block in under(tree, above)]
        ties.extend(next_ties)
        level = [tie[0] for tie in next_ties]
    return tuple(sorted(ties))


def unlike(tree, other, view):
    """The lot of places that tell otherwise in the one tree than in the other."""
    if not isinstance(other, Tree) or len(tree.hung) != len(other.hung):
        raise OtherBlocks()
    if not is_view(view):
        raise NoView()
    places = range(len(tree.hung) + 1)
    return tuple([place for place in places
                  if telling(tree, view, place) != telling(other, view, place)])


def distance(view):
    """At how many places two trees are unlike at least, if their heads tell alike."""
    if not is_view(view):
        raise NoView()
    up, down = view
    # Where a block moves, its own row tells it, and the ties of those above it.
    by_row = 1 if up > 0 else 0
    by_ties = down + 1 if down > 0 else 0
    return by_row + by_ties


def twins(view, blocks):
    """Two trees whose heads tell alike, unlike at just distance places, or None."""
    if not is_view(view):
        raise NoView()
    if not is_within(1, MOST_BLOCKS, blocks):
        raise NoNumber()
    _, down = view
    if blocks < down + 2:
        return None
    # The head sees this row of blocks, but not which of its last two has the leaf.
    row = tuple(range(down + 1))
    rest = (0,) * (blocks - down - 2)
    return Tree((*row, down, *rest)), Tree((*row, down + 1, *rest))

"""All small trees with their tellings, and what pictures of them leave, by counting."""

import functools

from foldervotes.trees import Tree
from tests.things import all_hung, climb, lots, told

# All views up to (2, 2), and some others, also where nothing is told beneath.
VIEWS = [(up, down) for up in range(3) for down in range(3)] + [
    (3, 0), (4, 0), (0, 3), (1, 3), (3, 1), (4, 4)]


@functools.lru_cache(maxsize=None)
def all_trees(blocks):
    return tuple(Tree(hung) for hung in all_hung(blocks))


@functools.lru_cache(maxsize=None)
def tellings(blocks, view):
    """For each tree of so many blocks what its places tell, as the document's words say."""
    return tuple((tree, tuple(told(tree, view, place) for place in range(blocks + 1)))
                 for tree in all_trees(blocks))


def fitting(blocks, view, picture_told):
    """All trees that tell just these."""
    return [tree for tree, told_there in tellings(blocks, view)
            if all(told_there[place] == worth for place, worth in picture_told.items())]


@functools.lru_cache(maxsize=None)
def pictures_left(blocks, view):
    """Each picture of trees of so many blocks: what is told, and all trees that fit."""
    found = []
    for lost in lots(range(1, blocks + 1)):
        left = [place for place in range(blocks + 1) if place not in lost]
        groups = {}
        for tree, told_there in tellings(blocks, view):
            groups.setdefault(tuple(told_there[place] for place in left), []).append(tree)
        found.extend((dict(zip(left, worths)), trees) for worths, trees in groups.items())
    return found


def known_by_words(picture_told):
    """The ties that told rows and told ties tell."""
    ties = {}
    for place, (row, beneath) in picture_told.items():
        ties.update(zip([place, *row], row))
        ties.update(beneath)
    return ties


def pieces_by_words(blocks, ties):
    """The pieces into which ties part the places, that of the head first, then by tops."""
    groups = {}
    for place in range(blocks + 1):
        top = place
        while top in ties:
            top = ties[top]
        groups.setdefault(top, []).append(place)
    return [tuple(groups[top]) for top in sorted(groups)]


def open_by_words(blocks, down, picture_told, ties):
    """The places under which a block could hang so that nobody would tell."""
    found = []
    for place in range(blocks + 1):
        above = []
        while (above or [place])[-1] in ties:
            above.append(ties[(above or [place])[-1]])
        near = [place, *above[:max(0, down - 1)]]
        if down == 0 or all(one not in picture_told for one in near):
            found.append(place)
    return found


def code_by_words(tree, groups):
    """The code of a tree, by striking the pieces one by one."""
    of = {place: min(group, key=lambda one: len(climb(tree.hung, one)) if one else 0)
          for group in groups for place in group}
    tops = sorted(set(of.values()) - {0})
    struck, found = [], []
    while len(struck) < len(tops):
        for top in tops:
            others = [one for one in tops if one not in struck and one != top]
            if top not in struck and all(of[tree.hung[one - 1]] != top for one in others):
                struck.append(top)
                found.append(tree.hung[top - 1])
                break
    return tuple(found)


def changed(chance, blocks, view, telling):
    """A telling that is changed in one way or another, of the right form."""
    up, _ = view
    row, ties = telling
    way = chance.randrange(7)
    if way == 0:
        row = tuple(chance.randint(0, blocks) for _ in range(chance.randint(0, up)))
    elif way == 1 and row:
        row = row[:-1]
    elif way == 2 and row:
        at = chance.randrange(len(row))
        row = row[:at] + (chance.randint(0, blocks),) + row[at + 1:]
    elif way == 3:
        ties = tuple(tie for tie in ties if chance.random() < 0.5)
    elif way == 4:
        more = (chance.randint(1, blocks), chance.randint(0, blocks))
        ties = tuple(sorted({*ties, more}))
    elif way == 5 and ties:
        gone = chance.choice(ties)
        ties = tuple(sorted({tie for tie in ties if tie != gone}
                            | {(gone[0], chance.randint(0, blocks))}))
    return row, ties

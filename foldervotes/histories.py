"""Histories of moves under way at once, their verdicts and calms (6)."""

from foldervotes.errors import (BadHistory, Beneath, NoBlock, NoPlace,
                                OtherBlocks)
from foldervotes.kinds import is_lot_within, is_pair, is_within
from foldervotes.trees import Tree, moved
from foldervotes.words import Words, votes, words_of_ups

MOST_MOVES = 100


class History:
    """A tree at a calm, and the moves since, pairs (block, place)."""

    def __init__(self, tree, moves):
        if not isinstance(tree, Tree):
            raise BadHistory("tree")
        if not isinstance(moves, tuple) or len(moves) > MOST_MOVES:
            raise BadHistory("moves")
        last = tree
        for at, move in enumerate(moves):
            if not is_pair(move):
                raise BadHistory(at)
            try:
                last = moved(last, move[0], move[1])
            except (NoBlock, NoPlace, Beneath):
                raise BadHistory(at) from None
        self.tree = tree
        self.moves = moves

    def __eq__(self, other):
        if not isinstance(other, History):
            return False
        return self.tree == other.tree and self.moves == other.moves


def now(history):
    """The tree behind all moves."""
    hung = list(history.tree.hung)
    for block, place in history.moves:
        hung[block - 1] = place
    return Tree(tuple(hung))


def had(history):
    """The dict from blocks to the lots of places under which they hung since the calm."""
    ties = _ties_of(history.tree.hung)
    for block, place in history.moves:
        ties[block].append(place)
    return {block: tuple(sorted(set(ties[block]))) for block in ties}


def _ties_of(hung):
    """The dict from blocks to the lists of places that they had, so far one."""
    return {block: [place] for block, place in enumerate(hung, start=1)}


def can_stand(history, words):
    """Whether each word that is not lost has a worth that it had since the calm."""
    if not isinstance(words, Words) or words.blocks != len(history.tree.hung):
        raise OtherBlocks()
    ties = had(history)
    return all([_can_be(words, block, ties[block]) for block in ties])


def _can_be(words, block, places):
    """Whether the words of a block can be if it had these places."""
    up = words.ups[block - 1]
    if up is not None and up not in places:
        return False
    for place, of_place in enumerate(words.lists):
        listed = of_place[block - 1]
        if listed is True and place not in places or listed is False and places == (place,):
            return False
    return True


def many_pictures(history):
    """How many pictures without lost words can stand."""
    many = 1
    ties = had(history)
    for block in ties:
        places = len(ties[block])
        # With one place no word of the block can be two things.
        if places > 1:
            many *= places << places
    return many


def verdict(history):
    """That all votes make trees, with an order; or that some make a ring, with words."""
    ties = had(history)
    order = _order(ties)
    if len(order) > len(ties):
        return "tree", tuple(order)
    ring = _ring(ties, order)
    ups = list(now(history).hung)
    for block, place in _ties_of_ring(ring):
        ups[block - 1] = place
    return "ring", ring, words_of_ups(tuple(ups))


def _order(ties):
    """The places as far as each can stand behind all that it had, beginning with the head."""
    order = [0]
    left = list(ties)
    while left:
        ready = [block for block in left if all([place in order for place in ties[block]])]
        if not ready:
            return order
        order.extend(ready)
        left = [block for block in left if block not in ready]
    return order


def _ring(ties, order):
    """A ring of ties among the blocks that stand in no order."""
    way = [min([block for block in ties if block not in order])]
    while way.count(way[-1]) == 1:
        # A block is left only if a place that it had is left, too.
        way.append(min([place for place in ties[way[-1]] if place not in order]))
    return tuple(way[way.index(way[-1]):-1])


def _ties_of_ring(ring):
    """The pairs of each block of a ring and the next one, behind the last the first."""
    return list(zip(ring, ring[1:] + ring[:1]))


def is_verdict(history, thing):
    """Whether a thing is a verdict on the history."""
    if not isinstance(thing, tuple) or len(thing) == 0 or not isinstance(thing[0], str):
        return False
    if thing[0] == "tree" and len(thing) == 2:
        return _is_order(had(history), thing[1])
    if thing[0] == "ring" and len(thing) == 3:
        return _is_ring(had(history), thing[1]) and _is_ring_told(history, thing[1], thing[2])
    return False


def _is_order(ties, thing):
    if not isinstance(thing, tuple) or len(thing) != len(ties) + 1:
        return False
    if not all([is_within(0, len(ties), place) for place in thing]):
        return False
    if len(set(thing)) != len(thing):
        return False
    return all([thing.index(place) < thing.index(block)
                for block in ties for place in ties[block]])


def _is_ring(ties, thing):
    if not isinstance(thing, tuple) or thing == ():
        return False
    if not all([is_within(1, len(ties), block) for block in thing]):
        return False
    if len(set(thing)) != len(thing):
        return False
    return all([place in ties[block] for block, place in _ties_of_ring(thing)])


def _is_ring_told(history, ring, thing):
    if not isinstance(thing, Words) or thing.blocks != len(history.tree.hung):
        return False
    if not can_stand(history, thing):
        return False
    told = votes(thing)
    return all([told[block - 1][1] == (place,) for block, place in _ties_of_ring(ring)])


def is_calm(history, calms):
    """Whether calms ahead of the moves with these indexes let no ties make a ring."""
    if not is_lot_within(0, len(history.moves) - 1, calms):
        return False
    hung = list(history.tree.hung)
    ties = _ties_of(hung)
    for at, (block, place) in enumerate(history.moves):
        if at in calms:
            ties = _ties_of(hung)
        if _leads_to(ties, place, block):
            return False
        ties[block].append(place)
        hung[block - 1] = place
    return True


def fewest_calms(history):
    """Of the lots with as few calms as can be that with each as late as can be."""
    calms = []
    hung = list(history.tree.hung)
    ties = _ties_of(hung)
    for at, (block, place) in enumerate(history.moves):
        if _leads_to(ties, place, block):
            calms.append(at)
            ties = _ties_of(hung)
        ties[block].append(place)
        hung[block - 1] = place
    return tuple(calms)


def _leads_to(ties, place, block):
    """Whether some ties lead from a place up to a block."""
    reached = [place]
    # What is reached grows while it is gone through.
    at = 0
    while at < len(reached):
        if reached[at] in ties:
            for above in ties[reached[at]]:
                if above not in reached:
                    reached.append(above)
        at += 1
    return block in reached

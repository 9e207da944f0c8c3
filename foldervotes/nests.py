"""The cheapest tree of words, and a nest, which tells that none is cheaper (5.3).

A nest is made by payments. What is left of the costs is at first all of them; a tie of
which nothing is left is free. As long as there are blocks to which no free ties lead
from the head, some of these make a lot that free ties join in all directions and none
enters: it pays what is left of the least tie that enters it, for all of these.
"""

from foldervotes.kinds import is_lot_within, is_pair
from foldervotes.trees import Tree
from foldervotes.words import costs


class Payments:
    """What is left of the costs, by blocks, and the ties that are free, as they came."""

    def __init__(self, words):
        self.blocks = words.blocks
        self.left = {block: costs(words, block) for block in range(1, words.blocks + 1)}
        # For each place, as bits, those from which a free tie leads to it, and itself.
        self.from_places = [1 << place for place in range(words.blocks + 1)]
        self.free_ties = []
        self.paid = []
        for block in range(1, words.blocks + 1):
            self.take_free(block, list(range(words.blocks + 1)))
        self.pay_all()

    def take_free(self, block, places):
        """Takes over the ties of a block to some places of which nothing is left."""
        for place in places:
            if self.left[block][place] == 0:
                self.free_ties.append((block, place))
                self.from_places[block] |= 1 << place

    def pay_all(self):
        """Lets lots pay until free ties lead from the head to all blocks."""
        lot = self.lot_to_pay()
        while lot is not None:
            self.pay(lot)
            lot = self.lot_to_pay()

    def lot_to_pay(self):
        """A lot that no free tie enters and that free ties join, or None if there is none.

        All that leads to a block to which the head doesn't lead is entered by no free tie.
        """
        leading = self.leading_to()
        found = None
        for block in range(1, self.blocks + 1):
            if leading[block] & 1 == 0:
                lot = [place for place in range(1, self.blocks + 1) if leading[block] >> place & 1]
                # Free ties join the least of these in all directions: else less would
                # lead to some block of it.
                if found is None or len(lot) < len(found):
                    found = lot
        return found

    def leading_to(self):
        """For each place, as bits, those from which free ties lead to it, itself too."""
        leading = list(self.from_places)
        for middle in range(1, self.blocks + 1):
            for place in range(1, self.blocks + 1):
                if leading[place] >> middle & 1:
                    leading[place] |= leading[middle]
        return leading

    def pay(self, lot):
        """Lets a lot pay for what enters it, until one such tie is free."""
        outside = [place for place in range(self.blocks + 1) if place not in lot]
        least = min([self.left[block][place] for block in lot for place in outside])
        for block in lot:
            for place in outside:
                self.left[block][place] -= least
            self.take_free(block, outside)
        self.paid.append((tuple(lot), least))

    def cheapest_tree(self):
        """A tree whose wrong words are as many as what was paid.

        It takes those ties first that were free first: so it enters no lot twice that
        paid, as the ties within were free before those that enter.
        """
        hung = {0: None}
        while len(hung) <= self.blocks:
            ends = [tie for tie in self.free_ties if tie[1] in hung and tie[0] not in hung]
            block, place = ends[0]
            hung[block] = place
        return Tree(tuple([hung[block] for block in range(1, self.blocks + 1)]))


def cheapest(words):
    """The least number of wrong words of a tree, and such a tree."""
    payments = Payments(words)
    return sum([number for _, number in payments.paid]), payments.cheapest_tree()


def nest(words):
    """A nest whose numbers come to the least number of wrong words."""
    return tuple(Payments(words).paid)


def is_nest(words, thing):
    """Whether a thing is a nest of the words."""
    if not isinstance(thing, tuple):
        return False
    if not all([_is_payment(words, part) for part in thing]):
        return False
    paid = _paid_for(words, thing)
    for block in range(1, words.blocks + 1):
        for place, wrong in enumerate(costs(words, block)):
            if place != block and paid[block][place] > wrong:
                return False
    return True


def _is_payment(words, thing):
    if not is_pair(thing):
        return False
    lot, number = thing
    if not is_lot_within(1, words.blocks, lot) or lot == ():
        return False
    return isinstance(number, int) and not isinstance(number, bool) and number >= 1


def _paid_for(words, pairs):
    """What some lots pay for each block at each place, by block and place."""
    paid = {block: [0] * (words.blocks + 1) for block in range(1, words.blocks + 1)}
    for lot, number in pairs:
        outside = [place for place in range(words.blocks + 1) if place not in lot]
        for block in lot:
            for place in outside:
                paid[block][place] += number
    return paid

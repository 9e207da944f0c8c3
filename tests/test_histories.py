"""[6.1] to [6.3]: histories, verdicts, calms; with [0.3], [0.4] for them."""

import itertools
import random
import time
import unittest

from foldervotes.errors import BadHistory, OtherBlocks
from foldervotes.histories import (History, can_stand, fewest_calms, had, is_calm,
                                   is_verdict, many_pictures, now, verdict)
from foldervotes.trees import Tree, moved
from foldervotes.words import Words, votes, words_of
from tests.scribble import SMALL_WORDS, all_words, chance_words, right_words
from tests.small import all_trees
from tests.things import (HUGE, chance_tree, climb, lots, nested, not_within, raised,
                          strange_things)

H = History(Tree((0, 1)), ((2, 0), (1, 2)))
LONG = Tree(tuple(range(40)))


def chance_moves(chance, tree, many):
    """So many moves of a tree, one behind the other, some of them to the same place."""
    moves, blocks = [], len(tree.hung)
    while len(moves) < many:
        block, place = chance.randint(1, blocks), chance.randint(0, blocks)
        if place == block or place and block in climb(tree.hung, place):
            continue
        moves.append((block, place))
        tree = moved(tree, block, place)
    return tuple(moves)


def turning_moves(chance, tree, many):
    """So many moves, many of them beneath what hung there the other way round before."""
    moves, hungs = [], [tree.hung]
    places = range(len(tree.hung) + 1)
    for _ in range(many):
        some = [(block, place) for block in places[1:] for place in places
                if place not in (block, hungs[-1][block - 1])
                and not (place and block in climb(hungs[-1], place))]
        turning = [(block, place) for block, place in some
                   if place and any(block in climb(hung, place) for hung in hungs)]
        block, place = chance.choice(turning if turning and chance.random() < 0.6 else some)
        moves.append((block, place))
        hungs.append(hungs[-1][:block - 1] + (place,) + hungs[-1][block:])
    return tuple(moves)


def chance_history(chance, blocks, many, width=3, turning=False):
    tree = chance_tree(chance, blocks, width)
    return History(tree, (turning_moves if turning else chance_moves)(chance, tree, many))


def trees_of(history):
    """The tree at the calm and those behind each move."""
    hungs = [list(history.tree.hung)]
    for block, place in history.moves:
        hungs.append(hungs[-1][:block - 1] + [place] + hungs[-1][block:])
    return hungs


def had_in(hungs):
    """The ties of some trees: the places of each block, ascending."""
    return {block: tuple(sorted({hung[block - 1] for hung in hungs}))
            for block in range(1, len(hungs[0]) + 1)}


def has_ring(ties):
    """Whether ties from blocks to places make a ring, by taking off what stands on nothing."""
    left = set(ties)
    while True:
        off = {block for block in left if not any(place in left for place in ties[block])}
        if not off:
            return bool(left)
        left -= off


def stands(words, hungs):
    """Whether each word that is not lost has a worth of one of the trees."""
    told = [right_words(tuple(hung)) for hung in hungs]
    for block in range(1, words.blocks + 1):
        if words.ups[block - 1] not in [None] + [ups[block - 1] for ups, _ in told]:
            return False
    for place, block in itertools.product(range(words.blocks + 1), range(1, words.blocks + 1)):
        worths = [lists[place][block - 1] for _, lists in told]
        item = words.lists[place][block - 1]
        if item is not None and item not in worths:
            return False
    return True


WHOLE = {blocks: [words for words in all_words(blocks)
                  if None not in words.ups + sum(words.lists, ())] for blocks in (1, 2)}


def whole_words(blocks):
    """All words of so many blocks of which none is lost."""
    if blocks in WHOLE:
        return WHOLE[blocks]
    ups = [[place for place in range(blocks + 1) if place != block]
           for block in range(1, blocks + 1)]
    lines = [list(itertools.product(*[[False] if place == block else [True, False]
                                      for block in range(1, blocks + 1)]))
             for place in range(blocks + 1)]
    WHOLE[blocks] = [Words(blocks, up, lists) for up in itertools.product(*ups)
                     for lists in itertools.product(*lines)]
    return WHOLE[blocks]


def small_histories():
    """Histories of one to three blocks with up to six moves, some without a ring."""
    chance = random.Random(1)
    found = [History(tree, ()) for blocks in (1, 2, 3) for tree in all_trees(blocks)]
    for blocks, many in ((1, 2), (2, 14), (3, 40)):
        for at in range(many):
            turning = blocks > 1 and at % 2 == 0
            found.append(chance_history(chance, blocks, chance.randint(1, 5), 3, turning))
    return found


class MakeHistories(unittest.TestCase):
    def part(self, tree, moves):
        return raised(self, BadHistory, History, tree, moves).part

    def test_right_ones_are_kept(self):
        for history in small_histories():
            again = History(history.tree, history.moves)
            self.assertEqual((again.tree, again.moves), (history.tree, history.moves))
            self.assertIs(type(again.moves), tuple)
        self.assertEqual((H.tree.hung, H.moves), ((0, 1), ((2, 0), (1, 2))))

    def test_what_is_no_tree(self):
        for thing in strange_things() + not_within(0, -1) + [(0, 1), [0, 1], words_of(LONG), H]:
            if not isinstance(thing, Tree):
                self.assertEqual(self.part(thing, ()), "tree")
                self.assertEqual(self.part(thing, None), "tree")
                self.assertEqual(self.part(thing, (None,)), "tree")

    def test_what_are_no_moves(self):
        for thing in strange_things() + [[], [(1, 0)], {}, {(1, 0)}, "", "ab", 0, 1, H, LONG]:
            if not isinstance(thing, tuple) and not isinstance(thing, set):
                self.assertEqual(self.part(Tree((0, 1)), thing), "moves")

    def test_a_hundred_moves(self):
        tree = Tree((0, 1))
        move = (2, 0)
        self.assertEqual(len(History(tree, (move,) * 100).moves), 100)
        self.assertEqual(self.part(tree, (move,) * 101), "moves")
        self.assertEqual(self.part(tree, (None,) * 101), "moves")
        self.assertEqual(self.part(tree, (None,) * 100), 0)
        self.assertEqual(self.part(tree, (move,) * 99 + ((2, 2),)), 99)
        history = chance_history(random.Random(2), 40, 100)
        self.assertEqual(len(history.moves), 100)
        self.assertEqual(self.part(history.tree, history.moves + ((1, 0),)), "moves")

    def test_strange_moves(self):
        tree = Tree((0, 1, 1))
        for thing in strange_things() + not_within(0, -1) + [
                (1,), (1, 0, 0), [1, 0], "10", b"\x01\x00", {1: 0}, (2, 2), (1, 2), (1, 1)]:
            self.assertEqual(self.part(tree, (thing,)), 0, thing)
            self.assertEqual(self.part(tree, ((2, 3), thing, (7, 7))), 1, thing)
        for thing in not_within(1, 3):
            self.assertEqual(self.part(tree, ((2, 0), (2, 1), (thing, 0))), 2, thing)
        for thing in not_within(0, 3):
            self.assertEqual(self.part(tree, ((2, 0), (2, thing))), 1, thing)
        deep = nested(lambda inner: (1, inner), 0)
        self.assertEqual(self.part(tree, (deep,)), 0)
        self.assertEqual(self.part(tree, deep), 0)

    def test_moves_of_the_tree_as_it_is_then(self):
        row = Tree((0, 1, 2))
        self.assertEqual(self.part(row, ((1, 3),)), 0)
        self.assertEqual(now(History(row, ((3, 0), (1, 3)))), Tree((3, 1, 0)))
        self.assertEqual(self.part(row, ((3, 0), (1, 3), (3, 2))), 2)
        self.assertEqual(self.part(row, ((3, 0), (3, 2), (1, 3))), 2)

    def test_moves_to_the_same_place(self):
        for tree in all_trees(3):
            moves = tuple(enumerate(tree.hung, start=1))
            self.assertEqual(now(History(tree, moves)), tree)

    def test_every_pair_of_moves(self):
        for tree in all_trees(2):
            for moves in itertools.product(itertools.product(range(4), range(4)), repeat=2):
                at, hung = 0, list(tree.hung)
                for block, place in moves:
                    if block not in (1, 2) or place not in (0, 1, 2) or place == block:
                        break
                    if place and block in climb(hung, place):
                        break
                    hung[block - 1] = place
                    at += 1
                if at < 2:
                    self.assertEqual(self.part(tree, moves), at)
                else:
                    self.assertEqual(now(History(tree, moves)).hung, tuple(hung))


class CompareHistories(unittest.TestCase):
    def test_equal_just_to_histories_of_the_same(self):
        made = [(Tree((0, 1)), ()), (Tree((0, 0)), ()), (Tree((0, 1)), ((2, 0),)),
                (Tree((0, 1)), ((2, 1),)), (Tree((0, 1)), ((2, 0), (2, 1))), (LONG, ())]
        for (at, one), (other_at, other) in itertools.product(enumerate(made), repeat=2):
            self.assertEqual(History(*one) == History(*other), at == other_at)
            self.assertEqual(History(*one) != History(*other), at != other_at)

    def test_equal_to_nothing_of_another_class(self):
        for thing in strange_things() + [H.tree, H.moves, (H.tree, H.moves)]:
            self.assertFalse(H == thing)
            self.assertFalse(thing == H)
            self.assertTrue(H != thing)


class NowAndHad(unittest.TestCase):
    def test_small_and_large(self):
        chance = random.Random(3)
        large = [chance_history(chance, blocks, many, width)
                 for blocks, many, width in ((40, 100, 3), (40, 30, 40), (12, 100, 1), (40, 0, 2))]
        for history in small_histories() + large:
            hungs = trees_of(history)
            self.assertEqual(now(history), Tree(tuple(hungs[-1])))
            found = had(history)
            self.assertEqual(found, had_in(hungs))
            self.assertIs(type(found), dict)
            self.assertEqual({type(places) for places in found.values()}, {tuple})

    def test_e07(self):
        found = (had(H)[1], had(H)[2], many_pictures(H), fewest_calms(H), verdict(H)[0])
        self.assertEqual(found, ((0, 2), (0, 1), 64, (1,), "ring"))

    def test_there_and_back(self):
        history = History(Tree((0, 1)), ((2, 0), (2, 1)))
        self.assertEqual((now(history), had(history)), (Tree((0, 1)), {1: (0,), 2: (0, 1)}))

    def test_new_each_time(self):
        first = had(H)
        first.clear()
        self.assertEqual(had(H), {1: (0, 2), 2: (0, 1)})


class CanStand(unittest.TestCase):
    def test_all_words_of_small_histories(self):
        there = 0
        for history in small_histories():
            blocks, hungs = len(history.tree.hung), trees_of(history)
            if blocks > 2:
                continue
            for words in SMALL_WORDS:
                if words.blocks == blocks:
                    found = can_stand(history, words)
                    self.assertIs(found, stands(words, hungs))
                    there += found
        self.assertGreater(there, 500)

    def test_words_of_any_history(self):
        chance = random.Random(4)
        for blocks in (3, 5, 40):
            for _ in range(20):
                history = chance_history(chance, blocks, chance.randint(0, 12))
                hungs = trees_of(history)
                self.one_by_one(chance, history, hungs)
                words = chance_words(chance, blocks, 0.95)
                self.assertIs(can_stand(history, words), stands(words, hungs))

    def one_by_one(self, chance, history, hungs):
        """Each word as it was at a time of its own, or lost; then one of them otherwise."""
        blocks = len(hungs[0])
        told = [right_words(tuple(hung)) for hung in hungs]
        ups = [chance.choice(told)[0][at] for at in range(blocks)]
        lists = [[chance.choice([None, chance.choice(told)[1][place][at]])
                  for at in range(blocks)] for place in range(blocks + 1)]
        for block in range(1, blocks + 1):
            lists[block][block - 1] = False
        words = Words(blocks, tuple(ups), tuple(map(tuple, lists)))
        self.assertIs(can_stand(history, words), True)
        block = chance.randint(1, blocks)
        place = chance.choice([place for place in range(blocks + 1) if place != block])
        for item in (True, False, None):
            lists[place][block - 1] = item
            words = Words(blocks, tuple(ups), tuple(map(tuple, lists)))
            self.assertIs(can_stand(history, words), stands(words, hungs))
        ups[block - 1] = place
        words = Words(blocks, tuple(ups), tuple(map(tuple, lists)))
        self.assertIs(can_stand(history, words), stands(words, hungs))

    def test_all_words_lost(self):
        for history in small_histories():
            words = chance_words(random.Random(1), len(history.tree.hung), 1)
            self.assertIs(can_stand(history, words), True)

    def test_other_blocks(self):
        for thing in strange_things() + not_within(0, -1) + [
                words_of(LONG), words_of(Tree((0,))), words_of(Tree((0, 0, 0))), H, Tree((0, 1))]:
            raised(self, OtherBlocks, can_stand, H, thing)

    def test_many_pictures(self):
        for history in small_histories():
            blocks, hungs = len(history.tree.hung), trees_of(history)
            if blocks == 3 and len(history.moves) % 2:
                continue
            many = sum(stands(words, hungs) for words in whole_words(blocks))
            self.assertEqual(many_pictures(history), many)
            self.assertEqual(sum(can_stand(history, words) for words in whole_words(blocks)), many)

    def test_many_pictures_of_large_ones(self):
        self.assertEqual(many_pictures(History(LONG, ())), 1)
        self.assertEqual(many_pictures(History(LONG, ((40, 39), (1, 0)))), 1)
        moves = tuple((40, place) for place in range(39))
        self.assertEqual(many_pictures(History(LONG, moves)), 40 << 40)
        moves = tuple((block, 0) for block in range(2, 41))
        self.assertEqual(many_pictures(History(LONG, moves)), 8 ** 39)


class Verdicts(unittest.TestCase):
    def check(self, history):
        """A verdict, whether it fits the description; whether it is a ring."""
        ties = had_in(trees_of(history))
        found = verdict(history)
        self.assertIs(type(found), tuple)
        self.assertIs(is_verdict(history, found), True)
        self.assertEqual(verdict(history), found)
        if found[0] == "tree":
            self.assertEqual(len(found), 2)
            self.assertFalse(has_ring(ties))
            self.check_order(ties, found[1])
        else:
            self.assertEqual((found[0], len(found)), ("ring", 3))
            self.assertTrue(has_ring(ties))
            self.check_ring(history, ties, found[1], found[2])
        return found[0] == "ring"

    def check_order(self, ties, order):
        self.assertIs(type(order), tuple)
        self.assertEqual(sorted(order), list(range(len(ties) + 1)))
        for block, places in ties.items():
            for place in places:
                self.assertLess(order.index(place), order.index(block))

    def check_ring(self, history, ties, ring, words):
        self.assertIs(type(ring), tuple)
        self.assertEqual(len(set(ring)), len(ring))
        self.assertGreater(len(ring), 1)
        self.assertIs(type(words), Words)
        self.assertTrue(stands(words, trees_of(history)))
        told = votes(words)
        for at, block in enumerate(ring):
            place = ring[(at + 1) % len(ring)]
            self.assertIn(place, ties[block])
            self.assertEqual(told[block - 1][1], (place,))

    def test_small_and_large(self):
        chance = random.Random(5)
        found = [self.check(history) for history in small_histories()]
        self.assertEqual(set(found), {True, False})
        found = []
        for blocks in (4, 9, 40):
            for many in (0, 1, 2, 4, 10, 100):
                for width in (1, 3, 40):
                    found.append(self.check(chance_history(chance, blocks, many, width)))
        self.assertGreater(min(found.count(True), found.count(False)), 10)

    def test_long_rings(self):
        """A row of forty blocks that is turned round block by block makes a ring of all."""
        for blocks in (3, 7, 40):
            tree = Tree(tuple(range(blocks)))
            history = History(tree, ((blocks, 0), (1, blocks)))
            self.assertTrue(self.check(history))
            self.assertEqual(set(verdict(history)[1]), set(range(1, blocks + 1)))
            others = Tree((0,) * blocks)
            moves = tuple((block, block + 1) for block in range(1, blocks))
            self.assertFalse(self.check(History(others, moves)))

    def test_sixth_fact(self):
        """Over all pictures without lost words of small histories."""
        rings = 0
        for history in small_histories():
            blocks, hungs = len(history.tree.hung), trees_of(history)
            if blocks == 3 and len(history.moves) % 3 != 1:
                continue
            ties = had_in(hungs)
            astray = False
            for words in whole_words(blocks):
                if not stands(words, hungs):
                    continue
                told = [places for _, places in votes(words)]
                for block, places in enumerate(told, start=1):
                    self.assertLessEqual(set(places), set(ties[block]))
                for hung in itertools.product(*told):
                    if any(climb(hung, block) is None for block in ties):
                        astray = True
            self.assertEqual(astray, has_ring(ties))
            self.assertEqual(verdict(history)[0], "ring" if astray else "tree")
            rings += astray
        self.assertGreater(rings, 5)


class IsVerdict(unittest.TestCase):
    def test_orders(self):
        """All orders of the places, for all small histories."""
        some = {True: 0, False: 0}
        for history in small_histories():
            ties = had_in(trees_of(history))
            for order in itertools.permutations(range(len(ties) + 1)):
                right = all(order.index(place) < order.index(block)
                            for block in ties for place in ties[block])
                self.assertIs(is_verdict(history, ("tree", order)), right)
                some[right] += 1
        self.assertGreater(min(some.values()), 50)

    def test_what_is_no_order(self):
        history = History(Tree((0, 1, 2)), ((3, 1),))
        self.assertIs(is_verdict(history, ("tree", (0, 1, 2, 3))), True)
        for order in ((), (0,), (0, 1, 2), (1, 2, 3), (0, 1, 2, 3, 4), (0, 1, 2, 3, 3),
                      (0, 0, 1, 2, 3), (0, 1, 2, 4), (0, 1, 2, 2), (0, 1, 2, -1),
                      (False, 1, 2, 3), (0, True, 2, 3), (0, 1, 2, None), (0, 1, 2, "3"),
                      [0, 1, 2, 3], "0123", b"\x00\x01\x02\x03", {0: 0, 1: 1, 2: 2, 3: 3},
                      (0, 1, 2, HUGE), (0, 1, 2, (3,)), 123, None, history):
            self.assertIs(is_verdict(history, ("tree", order)), False, order)

    def test_rings(self):
        """All rows of blocks, with words by which they vote so, for all small histories."""
        rings = 0
        for history in small_histories():
            ties = had_in(trees_of(history))
            blocks = len(ties)
            for size in range(blocks + 1):
                for ring in itertools.permutations(range(1, blocks + 1), size):
                    pairs = list(zip(ring, ring[1:] + ring[:1]))
                    hung = list(history.tree.hung)
                    if any(one == other for one, other in pairs):
                        continue
                    for one, other in pairs:
                        hung[one - 1] = other
                    words = Words(blocks, *right_words(tuple(hung)))
                    right = size > 0 and all(other in ties[one] for one, other in pairs)
                    self.assertIs(is_verdict(history, ("ring", ring, words)), right)
                    rings += right
        self.assertGreater(rings, 20)

    def test_all_words_for_a_ring(self):
        for ring in ((1, 2), (2, 1)):
            right = 0
            for words in SMALL_WORDS:
                thing = ("ring", ring, words)
                expected = (words.blocks == 2 and stands(words, trees_of(H))
                            and [places for _, places in votes(words)] == [(2,), (1,)])
                self.assertIs(is_verdict(H, thing), expected)
                right += expected
            # Also such of which some words are lost.
            self.assertGreater(right, 5)

    def test_votes_for_a_place_that_was_not_had(self):
        """With lost words a block can vote so; but this is no ring of what was had."""
        history = History(Tree((0, 0, 0)), ((1, 3), (1, 0), (2, 1)))
        words = Words(3, (None, 1, 0), ((False, False, True), (False, True, False),
                                        (None, False, False), (False, False, False)))
        self.assertTrue(stands(words, trees_of(history)))
        self.assertEqual([places for _, places in votes(words)], [(2,), (1,), (0,)])
        for ring in ((1, 2), (2, 1)):
            self.assertIs(is_verdict(history, ("ring", ring, words)), False)
        longer = History(history.tree, history.moves + ((2, 0), (1, 2)))
        for ring in ((1, 2), (2, 1)):
            self.assertIs(is_verdict(longer, ("ring", ring, words)), True)

    def test_words_that_cannot_stand(self):
        history = History(Tree((0, 1, 0)), ((2, 0), (1, 2)))
        _, ring, words = verdict(history)
        self.assertIs(is_verdict(history, ("ring", ring, words)), True)
        for ups, lists in (((2, 1, 1), words.lists),
                           (words.ups, words.lists[:3] + ((False, True, False),)),
                           (words.ups, ((False, False, False),) + words.lists[1:])):
            other = Words(3, ups, lists)
            self.assertFalse(stands(other, trees_of(history)))
            self.assertIs(is_verdict(history, ("ring", ring, other)), False)

    def test_what_is_no_ring(self):
        history = History(Tree((0, 1, 2)), ((3, 0), (2, 3), (1, 2)))
        kind, ring, words = verdict(history)
        self.assertEqual(kind, "ring")
        turned = ring[1:] + ring[:1]
        self.assertIs(is_verdict(history, (kind, turned, words)), True)
        for wrong in ((), ring + ring, ring + (0,), (0,), ring + (None,), ring + ("1",), ring[:1],
                      list(ring), ring[:-1] + (ring[-1] == 1,), (1, 3), (1, 2, 3, 4), (HUGE,),
                      "12", None, 12, (1, (2,)), ring + ring[:1], {1: 2}, history):
            self.assertIs(is_verdict(history, (kind, wrong, words)), False, wrong)
        for wrong in (None, (), words.ups, (3, words.ups, words.lists), words_of(LONG),
                      words_of(Tree((0, 1))), words_of(history.tree), now(history), history):
            self.assertIs(is_verdict(history, (kind, ring, wrong)), False, wrong)

    def test_flags_for_any_object(self):
        quiet = History(Tree((0, 1, 2)), ())
        for history, right in ((quiet, verdict(quiet)), (H, verdict(H))):
            for thing in strange_things() + not_within(0, -1) + [
                    list(right), right[1:], right + (None,), right[:1], (), right[0], H,
                    ("Tree",) + right[1:], (None,) + right[1:], (b"tree",) + right[1:],
                    ("ring",) + right[1:2], ("tree",) + right[1:] + (right[-1],), (right,),
                    ("tree", None), ("ring", None, None), ("tree",), ("ring",), "tree", "ring",
                    (("tree",),) + right[1:], ("votes",) + right[1:]]:
                self.assertIs(is_verdict(history, thing), False, thing)
            for thing in strange_things():
                self.assertIs(is_verdict(history, ("tree", thing)), False)
                self.assertIs(is_verdict(history, ("ring", thing, thing)), False)
                self.assertIs(is_verdict(history, ("ring", (1, 2), thing)), False)
                self.assertIs(is_verdict(history, (thing,) + right[1:]), False)
                self.assertIs(is_verdict(history, right[:-1] + (thing,)), False)

    def test_an_order_is_none_where_a_ring_is(self):
        for order in itertools.permutations(range(3)):
            self.assertIs(is_verdict(H, ("tree", order)), False)


class Calms(unittest.TestCase):
    def is_calm_by_words(self, history, calms):
        hungs = trees_of(history)
        starts = [0, *calms, len(history.moves)]
        return not any(has_ring(had_in(hungs[start:end + 1]))
                       for start, end in zip(starts, starts[1:]))

    def test_all_lots_of_small_histories(self):
        chance = random.Random(6)
        made = small_histories()
        for blocks, many in ((3, 9), (4, 9), (5, 8), (6, 7), (3, 8), (2, 9)):
            made.extend(chance_history(chance, blocks, many, 3, at > 2) for at in range(6))
        most = 0
        for history in made:
            right = []
            for lot in lots(range(len(history.moves))):
                is_right = self.is_calm_by_words(history, lot)
                self.assertIs(is_calm(history, lot), is_right)
                if is_right:
                    right.append(lot)
            few = min(map(len, right))
            # The latest first one, then the latest second one, and so on.
            expected = max(lot for lot in right if len(lot) == few)
            self.assertEqual(fewest_calms(history), expected)
            most = max(most, few)
        self.assertGreater(most, 2)

    def test_forty_blocks_with_a_hundred_moves(self):
        chance = random.Random(7)
        for width in (1, 3, 40):
            history = chance_history(chance, 40, 100, width, width > 1)
            before = time.monotonic()
            self.assertEqual(History(history.tree, history.moves), history)
            found = fewest_calms(history)
            self.assertIs(is_calm(history, found), True)
            self.assertTrue(is_verdict(history, verdict(history)))
            self.assertLess(time.monotonic() - before, 10)
            self.assertTrue(self.is_calm_by_words(history, found))
            self.assertGreater(len(found), 2)
            for at in range(len(found)):
                self.assertIs(is_calm(history, found[:at] + found[at + 1:]), False)
                later = found[:at] + (found[at] + 1,) + found[at + 1:]
                if later[at] < 100 and later[at] not in found:
                    self.assertIs(is_calm(history, later), False)
            self.assertIs(is_calm(history, tuple(range(100))), True)

    def test_blocks_that_turn_round_again_and_again(self):
        for blocks in (2, 5, 40):
            tree = Tree((0, 1) + (0,) * (blocks - 2))
            history = History(tree, ((2, 0), (1, 2), (1, 0), (2, 1)) * 25)
            found = fewest_calms(history)
            self.assertEqual(found, tuple(range(1, 100, 2)))
            self.assertIs(is_calm(history, found), True)

    def test_no_calm_is_needed(self):
        for history in (History(LONG, ()), History(LONG, ((40, 0),) * 100),
                        History(Tree((0,) * 40), tuple((k, k + 1) for k in range(1, 40)))):
            self.assertEqual(fewest_calms(history), ())
            self.assertIs(is_calm(history, ()), True)

    def test_what_is_no_lot_of_indexes(self):
        history = History(Tree((0, 1)), ((2, 0), (2, 1), (2, 0)))
        for lot in lots(range(3)):
            self.assertIs(is_calm(history, lot), True)
        for thing in strange_things() + not_within(0, 2) + [
                (3,), (0, 3), (-1,), (1, 1), (2, 1), (0, 0), [0], [], "0", (True,), (0, True),
                (False,), (None,), ((0,),), (0, 1, 2, 3), (HUGE,), {0: 0}, history, (1, 0), 0,
                (0, None), (0, "1"), (0, 2, 1)]:
            if thing not in lots(range(3)) or repr(thing) not in map(repr, lots(range(3))):
                self.assertIs(is_calm(history, thing), False, thing)
        self.assertIs(is_calm(History(LONG, ()), ()), True)
        for thing in ((0,), (1,), (-1,), None, []):
            self.assertIs(is_calm(History(LONG, ()), thing), False)

    def test_e07(self):
        self.assertEqual([lot for lot in lots((0, 1)) if is_calm(H, lot)], [(1,), (0, 1)])


if __name__ == "__main__":
    unittest.main()

"""[4.2], [4.3]: wrong tellings; with [0.3], [0.4] for them."""

import random
import time
import unittest

from foldervotes.errors import NotFitting, OtherBlocks, TooMany
from foldervotes.pictures import Picture, seen
from foldervotes.trees import Tree, moved
from foldervotes.views import distance, twins
from foldervotes.wrongs import least_wrong, mended, nearest, wrong
from tests.small import all_trees, changed, tellings
from tests.test_losses import MISFITS
from tests.things import (ALL_VIEWS, chance_tree, lots, not_within, raised,
                          strange_things, told)

ROW = Tree((0, 1, 2))
LONG = Tree(tuple(range(40)))


def wrong_by_words(picture, told_there):
    """The places, the head too, that tell otherwise than is told in a tree."""
    return [place for place, worth in sorted(picture.told.items()) if told_there[place] != worth]


def all_nearest(picture):
    """How many blocks are wrong at least, and all such trees, by trying all."""
    found = {}
    for tree, told_there in tellings(picture.blocks, picture.view):
        unlike = wrong_by_words(picture, told_there)
        if 0 not in unlike:
            found.setdefault(len(unlike), []).append(tree)
    if not found:
        return None, []
    return min(found), sorted(found[min(found)], key=lambda tree: tree.hung)


def spoilt(chance, tree, view, lost, many, way):
    """A picture of a tree with some lost and up to so many wrong blocks."""
    blocks = len(tree.hung)
    made = {place: told(tree, view, place) for place in range(blocks + 1) if place not in lost}
    left = [place for place in made if place != 0]
    other = moved(tree, *way) if way else chance_tree(chance, blocks, 5)
    for place in chance.sample(left, min(many, len(left))):
        if chance.random() < 0.5:
            made[place] = told(other, view, place)
        else:
            made[place] = changed(chance, blocks, view, made[place])
    return Picture(view, blocks, made)


def some_move(chance, tree):
    """A move of a tree, by chance."""
    blocks = len(tree.hung)
    while True:
        block, place = chance.randint(1, blocks), chance.randint(0, blocks)
        above = place
        while above not in (0, block):
            above = tree.hung[above - 1]
        if above == 0:
            return block, place


class Wrong(unittest.TestCase):
    def test_all_small_trees(self):
        chance = random.Random(3)
        for view in ALL_VIEWS:
            for _ in range(60):
                blocks = chance.choice((1, 2, 3, 4))
                tree = chance.choice(all_trees(blocks))
                lost = chance.choice(lots(range(1, blocks + 1)))
                picture = spoilt(chance, tree, view, lost, 2, None)
                self.check(picture, blocks, view)

    def check(self, picture, blocks, view):
        for tree, told_there in tellings(blocks, view):
            unlike = wrong_by_words(picture, told_there)
            if 0 in unlike:
                raised(self, NotFitting, wrong, picture, tree)
            else:
                self.assertEqual(wrong(picture, tree), tuple(unlike))

    def test_nothing_is_wrong(self):
        for view in ALL_VIEWS:
            for lost in lots((1, 2, 3)):
                self.assertEqual(wrong(seen(ROW, view, lost), ROW), ())
        self.assertEqual(wrong(seen(LONG, (1, 1), (3, 4)), LONG), ())

    def test_a_few(self):
        picture = Picture((1, 1), 3, {0: ((), ((1, 0),)), 1: ((0,), ()), 3: ((2,), ((1, 0),))})
        self.assertEqual(wrong(picture, ROW), (1, 3))
        self.assertEqual(wrong(picture, Tree((0, 1, 1))), (1, 3))
        raised(self, NotFitting, wrong, picture, Tree((0, 0, 1)))
        backwards = {place: picture.told[place] for place in sorted(picture.told, reverse=True)}
        self.assertEqual(wrong(Picture((1, 1), 3, backwards), ROW), (1, 3))

    def test_other_blocks(self):
        picture = seen(ROW, (1, 1), (1,))
        for thing in strange_things() + not_within(0, -1) + [
                Tree((0, 1)), Tree((0, 1, 2, 3)), LONG, (0, 1, 2), [0, 1, 2], picture]:
            if not (isinstance(thing, Tree) and thing == ROW):
                raised(self, OtherBlocks, wrong, picture, thing)

    def test_other_blocks_ahead_of_not_fitting(self):
        picture = Picture((1, 1), 3, {0: ((), ())})
        raised(self, OtherBlocks, wrong, picture, Tree((0, 1)))
        raised(self, NotFitting, wrong, picture, ROW)

    def test_pictures_that_no_tree_fits(self):
        for picture in MISFITS:
            self.check(picture, 2, picture.view)


class Mended(unittest.TestCase):
    def expected(self, picture):
        lost = picture.blocks + 1 - len(picture.told)
        found = [tree for tree, told_there in tellings(picture.blocks, picture.view)
                 for unlike in [wrong_by_words(picture, told_there)]
                 if 0 not in unlike and 2 * len(unlike) + lost < distance(picture.view)]
        self.assertLessEqual(len(found), 1)
        return found[0] if found else None

    def test_against_all_trees(self):
        chance = random.Random(5)
        there = 0
        for view in ALL_VIEWS:
            for at in range(200):
                blocks = chance.choice((1, 2, 3, 4, 4))
                tree = chance.choice(all_trees(blocks))
                lost = chance.choice(lots(range(1, blocks + 1)))
                picture = spoilt(chance, tree, view, lost if at % 2 else (), at % 4, None)
                expected = self.expected(picture)
                found = mended(picture)
                self.assertEqual(found, expected)
                self.assertIs(type(found), type(expected))
                there += expected is not None
        self.assertGreater(there, 1000)

    def test_misfits(self):
        for picture in MISFITS:
            self.assertEqual(mended(picture), self.expected(picture))

    def test_nothing_is_told_by_view_0_0(self):
        for tree in (Tree((0,)), ROW, LONG):
            self.assertIsNone(mended(seen(tree, (0, 0), ())))

    def test_right_pictures_of_all_views(self):
        for view in ALL_VIEWS[1:]:
            for many in range(8):
                picture = seen(LONG, view, tuple(range(7, 7 + many)))
                self.assertEqual(mended(picture), LONG if many < distance(view) else None)

    def test_the_tree_that_was_comes_back(self):
        chance = random.Random(6)
        most = {}
        for view in ALL_VIEWS[1:]:
            for blocks in (5, 9, 17, 40):
                for _ in range(6):
                    tree = chance_tree(chance, blocks, chance.choice((1, 3, 40)))
                    way = some_move(chance, tree) if chance.random() < 0.5 else None
                    self.check(chance, tree, view, way, most)
        self.assertEqual(max(many for many in most if many[1] == 0), (2, 0))
        self.assertEqual(max(most)[0], 2)
        self.assertEqual(max(most, key=lambda many: many[1])[1], 5)

    def check(self, chance, tree, view, way, most):
        blocks, far = len(tree.hung), distance(view)
        many_lost = chance.randint(0, min(blocks, far - 1))
        many_wrong = (far - 1 - many_lost) // 2
        lost = chance.sample(range(1, blocks + 1), many_lost)
        picture = spoilt(chance, tree, view, lost, many_wrong, way)
        before = time.monotonic()
        self.assertEqual(mended(picture), tree)
        self.assertLess(time.monotonic() - before, 5)
        most[len(wrong(picture, tree)), many_lost] = True

    def test_pictures_between_two_trees(self):
        """With one block more, wrong or lost, the two of twins are as near."""
        for view in ALL_VIEWS[1:]:
            for blocks in (view[1] + 2, 20, 40):
                one, other = twins(view, blocks)
                unlike = [block for block in range(1, blocks + 1)
                          if told(one, view, block) != told(other, view, block)]
                far = distance(view)
                self.assertEqual(len(unlike), far)
                self.assertIsNone(mended(seen(one, view, tuple(unlike))))
                self.assertEqual(mended(seen(one, view, tuple(unlike[1:]))), one)
                for at in range(far + 1):
                    made = seen(one, view, ()).told
                    for block in unlike[:at]:
                        made[block] = told(other, view, block)
                    found = mended(Picture(view, blocks, made))
                    expected = one if 2 * at < far else other if 2 * (far - at) < far else None
                    self.assertEqual(found, expected)

    def test_none_where_all_is_wrong(self):
        for view in ((1, 1), (0, 4), (4, 4)):
            picture = Picture(view, 40, {**seen(LONG, view, ()).told, **{
                block: ((), ((1, 1),)) for block in range(1, 41)}})
            self.assertIsNone(mended(picture))
            self.assertIsNone(mended(Picture(view, 40, {0: ((), ())})))

    def test_whatever_the_order_of_what_is_told(self):
        chance = random.Random(2)
        for view in ((1, 3), (0, 2), (4, 4)):
            picture = spoilt(chance, chance_tree(chance, 9, 3), view, (2,), 1, None)
            places = list(picture.told)
            chance.shuffle(places)
            other = Picture(view, 9, {place: picture.told[place] for place in places})
            for call in (mended, nearest, least_wrong):
                self.assertEqual(call(picture), call(other))

    def test_the_picture_stays(self):
        picture = spoilt(random.Random(1), LONG, (2, 4), (4, 9), 1, None)
        kept = Picture(picture.view, 40, picture.told)
        self.assertEqual(mended(picture), mended(picture))
        self.assertEqual(picture, kept)


class Nearest(unittest.TestCase):
    def check(self, picture):
        many, trees = all_nearest(picture)
        if len(trees) > 1000:
            for call in (nearest, least_wrong):
                self.assertEqual(raised(self, TooMany, call, picture).most, 1000)
            return
        found = nearest(picture)
        self.assertEqual(found, trees)
        self.assertIs(type(found), list)
        self.assertEqual([type(tree) for tree in found], [Tree] * len(trees))
        self.assertEqual(least_wrong(picture), many)

    def test_against_all_trees(self):
        chance = random.Random(7)
        for view in ALL_VIEWS:
            for at in range(60):
                blocks = chance.choice((1, 2, 3, 4, 4))
                tree = chance.choice(all_trees(blocks))
                lost = chance.choice(lots(range(1, blocks + 1))) if at % 2 else ()
                self.check(spoilt(chance, tree, view, lost, at % 5, None))

    def test_misfits(self):
        for picture in MISFITS:
            self.check(picture)

    def test_tellings_of_other_trees(self):
        """Each block tells of a tree of its own."""
        chance = random.Random(17)
        far = set()
        for _ in range(200):
            view = chance.choice(ALL_VIEWS[1:])
            made = {0: chance.choice(tellings(4, view))[1][0]}
            for block in (1, 2, 3, 4):
                made[block] = chance.choice(tellings(4, view))[1][block]
            picture = Picture(view, 4, made)
            self.check(picture)
            far.add(least_wrong(picture))
        self.assertLessEqual({0, 1, 2, 3}, far)

    def test_the_head_fits_none(self):
        for view, blocks, ties in (((0, 1), 3, ()), ((1, 1), 10, ((1, 2),)), ((0, 0), 2, ((1, 0),)),
                                   ((2, 2), 5, ((1, 0), (2, 3))), ((0, 1), 1, ((1, 1),))):
            picture = Picture(view, blocks, {0: ((), ties)})
            self.assertEqual((nearest(picture), least_wrong(picture)), ([], None))
            picture = Picture(view, blocks, {0: ((), ties), 1: ((), ())})
            self.assertEqual((nearest(picture), least_wrong(picture)), ([], None))

    def test_more_than_ten_blocks(self):
        for blocks in (11, 12, 40):
            tree = Tree((0,) * blocks)
            for picture in (seen(tree, (1, 1), ()), seen(tree, (0, 0), ()),
                            Picture((0, 1), blocks, {0: ((), ())})):
                for call in (nearest, least_wrong):
                    self.assertEqual(raised(self, TooMany, call, picture).most, 10)

    def test_ten_blocks(self):
        chance = random.Random(18)
        for view in ((1, 1), (2, 0), (0, 3), (4, 4)):
            for many in (0, 1, 2, 10):
                tree = chance_tree(chance, 10, 3)
                picture = spoilt(chance, tree, view, (), many, None)
                least = least_wrong(picture)
                self.assertLessEqual(least, len(wrong(picture, tree)))
                try:
                    found = nearest(picture)
                except TooMany:
                    continue
                self.assertEqual([len(wrong(picture, other)) for other in found],
                                 [least] * len(found))
                if least == len(wrong(picture, tree)):
                    self.assertIn(tree, found)

    def test_more_than_a_thousand_trees(self):
        for blocks in (1, 2, 3, 4):
            self.check(seen(Tree((0,) * blocks), (0, 0), ()))
        for blocks, many in ((5, 1296), (6, 16807), (10, 11 ** 9)):
            for call in (nearest, least_wrong):
                picture = seen(Tree((0,) * blocks), (0, 0), ())
                self.assertEqual(raised(self, TooMany, call, picture).most, 1000)
                self.assertGreater(many, 1000)

    def test_just_a_thousand_and_more(self):
        # In view (1, 0) all places are open: of c pieces 11 ** (c - 2) trees times those
        # of the head's piece, or 10 ** (c - 2).
        for hung, lost, many in (((0,) * 9, (1, 2, 3), 7 * 10 ** 2),
                                 ((0,) * 10, (8, 9, 10), 8 * 11 ** 2),
                                 ((0, 0, 0, 0, 1, 1, 1, 1, 1), (1, 2, 3, 4), 10 ** 3),
                                 ((0, 0, 0, 0, 1, 1, 1, 1, 1, 1), (1, 2, 3, 4), 11 ** 3),
                                 ((0,) * 9, (1, 2, 3, 4), 6 * 10 ** 3)):
            picture = seen(Tree(hung), (1, 0), lost)
            if many > 1000:
                for call in (nearest, least_wrong):
                    self.assertEqual(raised(self, TooMany, call, picture).most, 1000)
                continue
            found = nearest(picture)
            self.assertEqual(len(found), many)
            self.assertEqual(len({tree.hung for tree in found}), many)
            self.assertEqual(least_wrong(picture), 0)

    def test_trees_from_several_guesses(self):
        """Two blocks of which either may be wrong: the trees of both come, each once."""
        picture = Picture((1, 0), 2, {0: ((), ()), 1: ((2,), ()), 2: ((1,), ())})
        self.assertEqual([tree.hung for tree in nearest(picture)], [(0, 1), (2, 0)])
        self.assertEqual(least_wrong(picture), 1)

    def test_new_each_time(self):
        picture = seen(ROW, (1, 1), (1, 2, 3))
        first = nearest(picture)
        self.assertEqual([tree.hung for tree in first], [(0, 1, 1), (0, 1, 2), (0, 3, 1)])
        first.clear()
        self.assertEqual(len(nearest(picture)), 3)


if __name__ == "__main__":
    unittest.main()

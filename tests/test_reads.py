"""[4.1]: which lost block to read next; with [0.3], [0.4] for it."""

import copy
import itertools
import random
import time
import unittest

from foldervotes.errors import NoBlock, NoNumber, NoTelling, NoTree, NoView, TooMany
from foldervotes.losses import many_trees
from foldervotes.pictures import Picture, seen
from foldervotes.reads import is_plan, plan, read, reads
from foldervotes.trees import Tree
from foldervotes.words import words_of
from tests.small import pictures_left, tellings
from tests.test_losses import MISFITS
from tests.things import (ALL_VIEWS, HUGE, chance_tree, lots, nested, not_within, raised,
                          strange_things, told)

ROW = Tree((0, 1, 2))
LOST = seen(ROW, (1, 1), (1, 2, 3))
READ_VIEWS = [view for view in ALL_VIEWS if view != (0, 0)]


def groups_of(trees, view, block):
    """The trees by what a block tells in them."""
    groups = {}
    for tree in trees:
        groups.setdefault(told(tree, view, block), []).append(tree)
    return groups


def fewest(trees, view, lost):
    """The fewest reads at worst, by going through all plans."""
    if len(trees) == 1:
        return 0
    return min(1 + max(fewest(group, view, [one for one in lost if one != block])
                       if len(group) < len(trees) else 99
                       for group in groups_of(trees, view, block).values())
               for block in lost)


def is_right_plan(trees, view, lost, most, thing):
    """Whether a thing is a plan, as the document's words say."""
    if thing is None:
        return len(trees) == 1
    block, plans = thing
    groups = groups_of(trees, view, block)
    return (block in lost and most > 0 and set(plans) == set(groups) and all(
        is_right_plan(groups[worth], view, [one for one in lost if one != block], most - 1,
                      plans[worth]) for worth in plans))


def some_plan(chance, trees, view, lost, idle):
    """A plan by chance; the greater idle, the more reads without need."""
    if len(trees) == 1 and (not lost or chance.random() >= idle):
        return None
    block = chance.choice(lost)
    left = [one for one in lost if one != block]
    groups = groups_of(trees, view, block)
    return block, {worth: some_plan(chance, group, view, left, idle)
                   for worth, group in groups.items()}


def deepest(thing):
    return 0 if thing is None else 1 + max(map(deepest, thing[1].values()))


def small_pictures():
    for blocks in (1, 2, 3):
        for view in READ_VIEWS:
            for told_there, trees in pictures_left(blocks, view):
                yield Picture(view, blocks, told_there), trees
    for at, view in enumerate(((1, 1), (0, 1), (0, 2), (1, 2), (2, 1), (4, 4))):
        left = [pair for pair in pictures_left(4, view) if len(pair[1]) > 1]
        for told_there, trees in left[at::13]:
            if len(trees) <= 60:
                yield Picture(view, 4, told_there), trees


def lost_of(picture):
    return [block for block in range(1, picture.blocks + 1) if block not in picture.told]


class AgainstAllPlans(unittest.TestCase):
    def test_fewest_reads_and_a_plan(self):
        several = 0
        for picture, trees in small_pictures():
            many = fewest(trees, picture.view, lost_of(picture))
            several += many > 1
            self.assertEqual(reads(picture), many)
            made = plan(picture)
            self.assertTrue(is_right_plan(trees, picture.view, lost_of(picture), many, made))
            self.assertEqual(deepest(made), many)
            self.assertIs(is_plan(picture, many, made), True)
            self.assertIs(is_plan(picture, many + 9, made), True)
            self.assertIs(is_plan(picture, HUGE, made), True)
            if many:
                self.assertIs(is_plan(picture, many - 1, made), False)
        self.assertGreater(several, 20)

    def test_plans_by_chance(self):
        chance = random.Random(4)
        for picture, trees in small_pictures():
            view, lost = picture.view, lost_of(picture)
            made = some_plan(chance, trees, view, lost, 0.4)
            many = deepest(made)
            self.assertTrue(is_right_plan(trees, view, lost, many, made))
            self.assertIs(is_plan(picture, many, made), True)
            if many:
                self.assertIs(is_plan(picture, many - 1, made), False)

    def test_many_reads_are_needed(self):
        tree = Tree((0, 0, 0, 0))
        picture = seen(tree, (1, 0), (1, 2, 3))
        self.assertEqual(many_trees(picture), 50)
        self.assertEqual(reads(picture), 3)

    def test_one_tree(self):
        for view in READ_VIEWS:
            picture = seen(ROW, view, ())
            self.assertEqual((reads(picture), plan(picture)), (0, None))
            self.assertIs(is_plan(picture, 0, None), True)


class PlansThatAreNone(unittest.TestCase):
    def none(self, picture, thing):
        for most in (0, 1, 2, 3, 8, HUGE):
            self.assertIs(is_plan(picture, most, thing), False, thing)

    def test_strange_things(self):
        made = plan(LOST)
        block, plans = made
        for thing in strange_things() + not_within(0, -1) + [
                ROW, words_of(ROW), LOST, list(made), (block,), (block, plans, None),
                (plans, block), (block, list(plans.items())), (block, tuple(plans)),
                plans, {block: plans}, "None", ()]:
            if thing is not None:
                self.none(LOST, thing)
            if isinstance(thing, dict) or thing is None:
                continue
            self.none(LOST, (thing, plans) if thing not in (1, 2, 3) else None)
            self.none(LOST, (block, thing))
            if thing is not None:
                self.none(LOST, (block, {worth: thing for worth in plans}))
        self.none(LOST, None)

    def test_blocks_that_are_not_lost(self):
        picture = seen(Tree((0, 1, 2, 3)), (0, 1), (2, 3, 4))
        block, plans = plan(picture)
        for other in (0, 1, -1, 5, 41, HUGE, None, "2", True, (block,)):
            self.none(picture, (other, plans))
            self.none(picture, (other, {told(Tree((0, 1, 2, 3)), (0, 1), 1): None}))
        block, plans = plan(LOST)
        self.assertEqual(block, 1)
        self.none(LOST, (True, plans))
        one = seen(ROW, (1, 1), ())
        for block in range(-1, 5):
            self.none(one, (block, {told(ROW, (1, 1), max(0, min(3, block))): None}))

    def test_a_block_read_twice(self):
        picture = seen(Tree((0, 1)), (0, 2), (1, 2))
        worth = told(Tree((0, 1)), (0, 2), 2)
        self.assertIs(is_plan(picture, 1, (2, {worth: None})), True)
        self.none(picture, (2, {worth: (2, {worth: None})}))
        other = told(Tree((0, 1)), (0, 2), 1)
        self.assertIs(is_plan(picture, 2, (2, {worth: (1, {other: None})})), True)
        self.assertIs(is_plan(picture, 1, (2, {worth: (1, {other: None})})), False)

    def test_not_just_all_tellings(self):
        block, plans = plan(LOST)
        for worth in plans:
            self.none(LOST, (block, {one: plans[one] for one in plans if one != worth}))
            fewer = {one: plans[one] for one in plans if one != worth}
            for more in (((0,), ()), ((0,), ((3, 1), (2, 1))), ((2,), ()), "more", None, 7,
                         (), nested(lambda x: (x,), 1), list(plans)[0][::-1]):
                self.none(LOST, (block, {**plans, more: None}))
                self.none(LOST, (block, {**fewer, more: None}))
        self.none(LOST, (block, {}))

    def test_none_where_several_trees_fit(self):
        picture = seen(Tree((0, 1, 2, 3)), (1, 1), (1, 2, 3, 4))
        made = plan(picture)
        self.assertTrue(is_plan(picture, 2, made))
        for worth, inner in made[1].items():
            if inner is not None:
                wrong = copy.deepcopy(made)
                wrong[1][worth] = None
                self.none(picture, wrong)
            wrong = copy.deepcopy(made)
            wrong[1][worth] = (made[0], {worth: None})
            self.none(picture, wrong)

    def test_shuffled_plans(self):
        """What is left when some part of a right plan is put elsewhere."""
        chance = random.Random(9)
        for picture, trees in list(small_pictures())[::3]:
            view, lost = picture.view, lost_of(picture)
            if not lost:
                continue
            made = some_plan(chance, trees, view, lost, 0.3)
            if made is None:
                continue
            block, plans = made
            inner = list(plans.values())
            chance.shuffle(inner)
            turned = chance.choice(lost), dict(zip(plans, inner))
            expected = is_right_plan(trees, view, lost, 9, turned)
            self.assertIs(is_plan(picture, 9, turned), expected)

    def test_a_thing_forty_deep(self):
        worth = told(Tree((0,)), (0, 1), 1)
        picture = seen(Tree((0,)), (0, 1), (1,))
        deep = nested(lambda inner: (1, {worth: inner}), None, 20)
        self.none(picture, deep)
        self.assertIs(is_plan(picture, 1, (1, {worth: None})), True)


class Errors(unittest.TestCase):
    def test_no_tree_first(self):
        for picture in MISFITS:
            for call, args in ((reads, ()), (plan, ()), (is_plan, (-1, None)),
                               (is_plan, (1, None)), (read, (1, ((), ()))), (read, (0, None))):
                raised(self, NoTree, call, picture, *args)
        many = Picture((1, 1), 40, {0: ((), ())})
        for call, args in ((reads, ()), (plan, ()), (is_plan, (None, None))):
            raised(self, NoTree, call, many, *args)

    def test_no_view_where_reading_tells_nothing(self):
        for tree in (Tree((0,)), ROW, Tree(tuple(range(40)))):
            for lost in lots((1, len(tree.hung)) if len(tree.hung) > 1 else (1,)):
                picture = seen(tree, (0, 0), lost)
                for call, args in ((reads, ()), (plan, ()), (is_plan, (1, None)),
                                   (is_plan, (-1, None))):
                    raised(self, NoView, call, picture, *args)
        # Of a block that is read there it comes to the picture all the same.
        picture = read(seen(ROW, (0, 0), (1, 2)), 2, ((), ()))
        self.assertEqual(picture, seen(ROW, (0, 0), (1,)))

    def test_no_number(self):
        for picture in (LOST, seen(ROW, (1, 1), ()),
                        seen(Tree(tuple(range(40))), (1, 0), tuple(range(1, 41)))):
            for thing in [*strange_things(), (1,), (0, 0), -1, -2, -HUGE]:
                raised(self, NoNumber, is_plan, picture, thing, None)
                raised(self, NoNumber, is_plan, picture, thing, thing)

    def test_too_many_lost_blocks(self):
        tree = Tree(tuple(range(40)))
        for view in ((0, 4), (4, 0), (1, 1), (4, 4)):
            for many in (9, 10, 40):
                picture = seen(tree, view, tuple(range(1, many + 1)))
                for call, args in ((reads, ()), (plan, ()), (is_plan, (9, None))):
                    self.assertEqual(raised(self, TooMany, call, picture, *args).most, 8)

    def test_too_many_trees(self):
        row = Tree(tuple(range(40)))
        many = {}
        for start in range(1, 33):
            for step in range(1, 5):
                picture = seen(row, (1, 1), tuple(range(start, min(41, start + 8 * step), step)))
                many.setdefault(many_trees(picture), picture)
        for count, picture in many.items():
            for call, args in ((reads, ()), (plan, ()), (is_plan, (8, None))):
                if count > 60:
                    self.assertEqual(raised(self, TooMany, call, picture, *args).most, 60)
                else:
                    call(picture, *args)
        self.assertGreater(max(many), 60)

    def test_just_sixty_trees_and_more(self):
        for blocks, expected in ((2, 3), (3, 16)):
            picture = seen(Tree((0,) * blocks), (1, 0), tuple(range(1, blocks + 1)))
            self.assertEqual(many_trees(picture), expected)
            self.assertEqual(reads(picture), blocks)
        # Of three pieces there are f * F trees.
        for f, own in ((4, 11), (6, 4), (7, 2), (5, 7), (3, 17), (2, 29), (1, 39)):
            picture = self.picture_with(f, own)
            self.assertEqual(many_trees(picture), f * (f + own))
            if f * (f + own) <= 60:
                self.assertLessEqual(reads(picture), 8)
                self.assertTrue(is_plan(picture, 8, plan(picture)))
            else:
                self.assertEqual(raised(self, TooMany, reads, picture).most, 60)

    def picture_with(self, f, own):
        """A picture of three pieces, the head's with f places, the others with own."""
        hung = [0] * (f + own - 1)
        first, second = f, f + own - 1
        for block in range(f, f + own):
            hung[block - 1] = first if block not in (first, second) else 0
        return seen(Tree(tuple(hung)), (1, 0), (first, second))

    def test_too_many_behind_no_number(self):
        picture = seen(Tree(tuple(range(40))), (1, 0), tuple(range(1, 41)))
        raised(self, NoNumber, is_plan, picture, -1, None)
        self.assertEqual(raised(self, TooMany, is_plan, picture, 0, None).most, 8)
        self.assertEqual(raised(self, TooMany, is_plan, picture, 0, 7).most, 8)

    def test_no_block(self):
        picture = seen(ROW, (1, 1), (2, 3))
        for thing in [0, 1, *not_within(1, 3)]:
            raised(self, NoBlock, read, picture, thing, ((1,), ((3, 2),)))
            raised(self, NoBlock, read, picture, thing, thing)
        self.assertEqual(read(picture, 2, ((1,), ((3, 2),))), seen(ROW, (1, 1), (3,)))

    def test_no_telling(self):
        picture = seen(ROW, (1, 1), (2, 3))
        for thing in strange_things() + not_within(0, -1) + [
                ((1,), ()), ((0,), ((3, 2),)), ((1, 0), ((3, 2),)), ((), ((3, 2),)),
                ((1,), [(3, 2)]), [(1,), ((3, 2),)], ((1,), ((3, 2), (1, 0))), ((3,), ()),
                ((1,), ((1, 2),)), ((1,), ((2, 1), (3, 2))), ((2,), ()), ((1,),), ROW]:
            raised(self, NoTelling, read, picture, 2, thing)


class Read(unittest.TestCase):
    def test_all_tellings_of_small_trees(self):
        chance = random.Random(14)
        for blocks in (1, 2, 3):
            for view in ALL_VIEWS:
                for told_there, trees in pictures_left(blocks, view):
                    picture = Picture(view, blocks, told_there)
                    if len(told_there) <= blocks:
                        self.check(chance, picture, trees)

    def check(self, chance, picture, trees):
        view, blocks = picture.view, picture.blocks
        block = chance.choice(lost_of(picture))
        right = set(groups_of(trees, view, block))
        for worth in {told_there[block] for _, told_there in tellings(blocks, view)}:
            if worth not in right:
                raised(self, NoTelling, read, picture, block, worth)
                continue
            found = read(picture, block, worth)
            self.assertEqual(found, Picture(view, blocks, {**picture.told, block: worth}))
            self.assertIs(type(found), Picture)
            self.assertNotIn(block, picture.told)

    def test_forty_blocks(self):
        chance = random.Random(15)
        for view in ALL_VIEWS:
            tree = chance_tree(chance, 40, 6)
            picture = seen(tree, view, tuple(range(1, 41)))
            for block in chance.sample(range(1, 41), 40):
                picture = read(picture, block, told(tree, view, block))
            self.assertEqual(picture, seen(tree, view, ()))

    def test_reading_as_a_plan_says(self):
        tree = Tree((0, 1, 2, 3, 1, 2, 3, 4))
        for view in READ_VIEWS:
            for lost in itertools.combinations(range(1, 9), 3):
                picture = seen(tree, view, lost)
                if many_trees(picture) > 60:
                    continue
                made, many = plan(picture), 0
                while made is not None:
                    block, plans = made
                    worth = told(tree, view, block)
                    picture, made = read(picture, block, worth), plans[worth]
                    many += 1
                self.assertEqual(many_trees(picture), 1)


class Large(unittest.TestCase):
    def test_forty_blocks_with_eight_lost(self):
        chance = random.Random(16)
        sizes = []
        while len(sizes) < 60:
            tree = chance_tree(chance, 40, chance.choice((1, 2, 5)))
            view = chance.choice([(0, 1), (1, 1), (2, 1), (4, 1), (0, 2), (1, 2), (3, 3)])
            start = chance.randint(1, 40)
            lost = {start, *range(start, 41, chance.randint(1, 5))}
            lost = lost | set(chance.sample(range(1, 41), 8))
            picture = seen(tree, view, tuple(sorted(sorted(lost)[:8])))
            if not 2 <= many_trees(picture) <= 60:
                continue
            sizes.append(many_trees(picture))
            before = time.monotonic()
            many, made = reads(picture), plan(picture)
            self.assertTrue(is_plan(picture, many, made))
            self.assertFalse(is_plan(picture, many - 1, made))
            self.assertLess(time.monotonic() - before, 5)
            self.assertEqual(deepest(made), many)
        self.assertGreater(max(sizes), 20)


class NewEachTime(unittest.TestCase):
    def test_plans(self):
        first = plan(LOST)
        kept = copy.deepcopy(first)
        self.assertEqual(plan(LOST), kept)
        first[1].clear()
        self.assertEqual(plan(LOST), kept)
        self.assertIs(is_plan(LOST, 1, kept), True)
        self.assertEqual(LOST, seen(ROW, (1, 1), (1, 2, 3)))

    def test_nothing_is_changed_by_judging(self):
        made = plan(LOST)
        kept = copy.deepcopy(made)
        for most in (0, 1, 2):
            is_plan(LOST, most, made)
        self.assertEqual(made, kept)


if __name__ == "__main__":
    unittest.main()

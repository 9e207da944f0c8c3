"""[3.2] to [3.4]: what is left of lost blocks; with [0.3], [0.4] for them."""

import fractions
import itertools
import random
import time
import unittest

from foldervotes.errors import NoBlock, NoNumber, NotFitting, NoTree, NoView
from foldervotes.losses import (always, chances, code, known, many_trees, number_of,
                                open_places, pieces, sure, tree_at)
from foldervotes.pictures import Picture, is_fitting, seen
from foldervotes.trees import Tree, moved
from foldervotes.views import distance, twins
from foldervotes.wrongs import wrong
from tests.small import (VIEWS, all_trees, changed, code_by_words, fitting, known_by_words,
                         open_by_words, pictures_left, pieces_by_words, tellings)
from tests.things import (ALL_VIEWS, HUGE, chance_tree, lots, not_views, not_within, raised,
                          strange_things, told)

ROW = Tree((0, 1, 2))
LOST = seen(ROW, (1, 1), (1, 2, 3))
LONG = Tree(tuple(range(40)))
WIDE = Tree((0,) * 40)
# Something of each kind that no tree fits.
MISFITS = [
    Picture((1, 1), 2, {0: ((), ())}),                              # nobody hangs at the head
    Picture((0, 1), 2, {0: ((), ((1, 0),)), 1: ((), ())}),          # no place for 2
    Picture((1, 1), 2, {0: ((), ((1, 0), (2, 1)))}),                # a tie too far beneath
    Picture((1, 2), 2, {0: ((), ((1, 0),)), 1: ((0,), ((2, 1),))}),  # and one left out
    Picture((1, 0), 2, {0: ((), ()), 1: ((2,), ()), 2: ((1,), ())}),  # a ring
    Picture((1, 0), 2, {0: ((), ()), 1: ((1,), ())}),
    Picture((0, 1), 2, {0: ((), ((1, 1),))}),
    Picture((1, 0), 2, {0: ((), ()), 1: ((), ())}),                 # a row too short
    Picture((2, 0), 2, {0: ((), ()), 1: ((2,), ())}),
    Picture((3, 0), 2, {0: ((), ()), 1: ((0, 2), ())}),             # the head hangs
    Picture((3, 0), 2, {0: ((), ()), 1: ((2, 0, 0), ())}),
    Picture((1, 1), 2, {0: ((), ((1, 0), (1, 2)))}),                # two places of one
    Picture((1, 1), 2, {0: ((), ((1, 0),)), 1: ((2,), ())}),
    Picture((0, 0), 2, {0: ((), ((1, 0),))}),                       # told though none is
    Picture((0, 0), 2, {0: ((), ()), 2: ((), ((2, 0),))}),
]


class Examples(unittest.TestCase):
    def test_e02(self):
        found = (pieces(LOST), open_places(LOST), many_trees(LOST))
        self.assertEqual(found, ([(0, 1), (2,), (3,)], [(1,), (2,), (3,)], 3))

    def test_e03(self):
        self.assertEqual([tree_at(LOST, number).hung for number in range(3)],
                         [(0, 1, 1), (0, 1, 2), (0, 3, 1)])

    def test_e04(self):
        found = (chances(LOST, 3)[1], chances(LOST, 3)[2], sure(LOST))
        self.assertEqual(found, ((2, 3), (1, 3), {1: 0}))

    def test_e05(self):
        found = (distance((1, 1)), always((1, 1)), always((2, 2)), always((0, 0)))
        self.assertEqual(found, (3, (2, 1), (3, 1), None))


class AgainstAllTrees(unittest.TestCase):
    """Pictures of one to four blocks, against all trees that fit."""

    def each(self, check):
        for blocks in (1, 2, 3):
            for view in ALL_VIEWS:
                for told_there, trees in pictures_left(blocks, view):
                    check(Picture(view, blocks, told_there), trees)
        for at, view in enumerate(VIEWS):
            left = pictures_left(4, view)
            # Of so many pictures some, others with each view.
            step = 1 + len(left) // 400
            for told_there, trees in left[at % step::step]:
                check(Picture(view, 4, told_there), trees)

    def check_pieces(self, picture, trees):
        down = picture.view[1]
        ties = known_by_words(picture.told)
        self.assertEqual(known(picture), ties)
        groups = pieces_by_words(picture.blocks, ties)
        self.assertEqual(pieces(picture), groups)
        is_open = open_by_words(picture.blocks, down, picture.told, ties)
        found = open_places(picture)
        self.assertEqual(found, [tuple(p for p in group if p in is_open) for group in groups])
        for lot in (*pieces(picture), *found):
            self.assertIs(type(lot), tuple)
        self.assertEqual(many_trees(picture), len(trees))
        self.check_places_used(picture, trees, found, ties)

    def check_places_used(self, picture, trees, found, ties):
        """Where the tops hang in some tree are just the places that are open."""
        used = {tree.hung[block - 1] for tree in trees
                for block in range(1, picture.blocks + 1) if block not in ties}
        opened = {place for lot in found for place in lot}
        if len(found) == 2:
            self.assertEqual(used, set(found[0]))
        if len(found) > 2:
            self.assertEqual(used, opened)

    def test_pieces_and_many_trees(self):
        self.each(self.check_pieces)

    def check_codes(self, picture, trees):
        groups = pieces(picture)
        codes = [code(picture, tree) for tree in trees]
        self.assertEqual(codes, [code_by_words(tree, groups) for tree in trees])
        for at, tree in enumerate(sorted(trees, key=lambda tree: codes[trees.index(tree)])):
            self.assertEqual(number_of(picture, tree), at)
            self.assertEqual(tree_at(picture, at), tree)
        self.assertEqual(len(set(codes)), len(codes))

    def test_codes_and_numbers(self):
        self.each(self.check_codes)

    def check_chances(self, picture, trees):
        expected_sure = {}
        for block in range(1, picture.blocks + 1):
            places = [tree.hung[block - 1] for tree in trees]
            expected = {}
            for place in set(places):
                share = fractions.Fraction(places.count(place), len(trees))
                expected[place] = (share.numerator, share.denominator)
            self.assertEqual(chances(picture, block), expected)
            if len(expected) == 1:
                expected_sure[block] = places[0]
        self.assertEqual(sure(picture), expected_sure)

    def test_chances_and_sure(self):
        self.each(self.check_chances)

    def test_changed_tellings(self):
        chance = random.Random(11)
        some_fit = none_fits = 0
        for _ in range(4000):
            blocks = chance.choice((2, 3, 3, 4, 4, 4))
            view = chance.choice(ALL_VIEWS)
            tree, told_there = chance.choice(tellings(blocks, view))
            made = {place: told_there[place] for place in [0, *chance.choice(
                lots(range(1, blocks + 1)))]}
            for at in chance.sample(sorted(made), chance.randint(1, min(2, len(made)))):
                row, ties = changed(chance, blocks, view, made[at])
                made[at] = (row if at else (), ties)
            picture = Picture(view, blocks, made)
            trees = fitting(blocks, view, made)
            if trees:
                some_fit += 1
                self.check_pieces(picture, trees)
                self.check_codes(picture, trees)
                self.check_chances(picture, trees)
            else:
                none_fits += 1
                self.no_tree(picture)
        self.assertGreater(min(some_fit, none_fits), 500)

    def no_tree(self, picture):
        for call in (known, pieces, open_places, many_trees, sure):
            raised(self, NoTree, call, picture)
        some = all_trees(picture.blocks)[0]
        for call in (code, number_of):
            raised(self, NoTree, call, picture, some)
        raised(self, NoTree, tree_at, picture, 0)
        raised(self, NoTree, chances, picture, 1)


class NoTreeFirst(unittest.TestCase):
    def test_of_all_kinds(self):
        for picture in MISFITS:
            self.assertEqual(fitting(2, picture.view, picture.told), [])
            AgainstAllTrees.no_tree(self, picture)

    def test_ahead_of_other_errors(self):
        for picture in MISFITS:
            for thing in strange_things() + [-1, 0, 3, HUGE, ROW]:
                for call in (code, number_of, tree_at, chances):
                    raised(self, NoTree, call, picture, thing)


class OtherErrors(unittest.TestCase):
    def test_not_fitting(self):
        for call in (code, number_of):
            for thing in not_within(1, 0) + [(0, 1, 1), [0, 1, 1], LOST, Tree((0, 0, 0)),
                                             Tree((2, 0, 0)), Tree((0, 1)),
                                             Tree((0, 1, 1, 1))]:
                if thing != ROW:
                    raised(self, NotFitting, call, LOST, thing)

    def test_no_number(self):
        for thing in not_within(0, 2):
            raised(self, NoNumber, tree_at, LOST, thing)
        one = seen(ROW, (1, 1), ())
        self.assertEqual(tree_at(one, 0), ROW)
        for thing in not_within(0, 0):
            raised(self, NoNumber, tree_at, one, thing)

    def test_no_block(self):
        for thing in not_within(1, 3):
            raised(self, NoBlock, chances, LOST, thing)

    def test_no_view(self):
        for thing in not_views():
            raised(self, NoView, always, thing)


class NewEachTime(unittest.TestCase):
    def test_lists_and_dicts(self):
        picture = seen(Tree((0, 1, 2, 1)), (1, 1), (1, 2, 4))
        for call, args in ((known, ()), (sure, ()), (chances, (1,)), (chances, (2,)),
                           (pieces, ()), (open_places, ())):
            first = call(picture, *args)
            kept = first.copy()
            self.assertIsNot(call(picture, *args), first)
            first.clear()
            self.assertEqual(call(picture, *args), kept)
            self.assertEqual(picture, seen(Tree((0, 1, 2, 1)), (1, 1), (1, 2, 4)))

    def test_whatever_the_order_of_what_is_told(self):
        for view in ALL_VIEWS:
            for lost in lots((1, 2, 3, 4)):
                one = seen(Tree((0, 1, 2, 1)), view, lost)
                other = Picture(view, 4, {place: one.told[place] for place in
                                          sorted(one.told, reverse=True)})
                for call in (known, sure, pieces, open_places, many_trees):
                    self.assertEqual(call(one), call(other))
                self.assertEqual([tree_at(one, at) for at in range(min(3, many_trees(one)))],
                                 [tree_at(other, at) for at in range(min(3, many_trees(one)))])

    def test_equal_calls(self):
        for view in ALL_VIEWS:
            one, other = (seen(Tree((0, 1, 2, 1)), view, (1, 2)) for _ in range(2))
            for call in (known, sure, pieces, open_places, many_trees):
                self.assertEqual(call(one), call(other))


def times_of(picture):
    """How many trees fit, by a determinant over the pieces."""
    ties = known_by_words(picture.told)
    groups = pieces_by_words(picture.blocks, ties)
    is_open = open_by_words(picture.blocks, picture.view[1], picture.told, ties)
    many = [len([place for place in group if place in is_open]) for group in groups]
    size = len(groups) - 1
    rows = [[fractions.Fraction(-many[col + 1]) for col in range(size)] for _ in range(size)]
    for at in range(size):
        rows[at][at] = fractions.Fraction(sum(many) - many[at + 1])
    result = fractions.Fraction(1)
    for at in range(size):
        pivot = next((row for row in range(at, size) if rows[row][at]), None)
        if pivot is None:
            return 0
        if pivot != at:
            rows[at], rows[pivot] = rows[pivot], rows[at]
            result = -result
        result *= rows[at][at]
        for row in range(at + 1, size):
            part = rows[row][at] / rows[at][at]
            if part:
                rows[row] = [x - part * y for x, y in zip(rows[row], rows[at])]
    return result


class FortyBlocks(unittest.TestCase):
    def some_pictures(self):
        chance = random.Random(21)
        for width in (1, 2, 5, 40):
            for view in ((0, 0), (0, 1), (1, 0), (1, 1), (2, 2), (4, 4), (0, 4), (3, 0)):
                tree = chance_tree(chance, 40, width)
                for many in (0, 1, 3, 10, 36, 39, 40):
                    yield tree, seen(tree, view, tuple(sorted(chance.sample(range(1, 41), many))))

    def test_how_many(self):
        for tree, picture in self.some_pictures():
            self.assertEqual(many_trees(picture), times_of(picture))
            self.assertTrue(is_fitting(picture, tree))

    def test_numbers_and_codes(self):
        chance = random.Random(22)
        for tree, picture in self.some_pictures():
            many = many_trees(picture)
            self.assertEqual(tree_at(picture, number_of(picture, tree)), tree)
            numbers = sorted({0, many - 1, many // 2, chance.randrange(many)})
            found = [tree_at(picture, number) for number in numbers]
            codes = [code(picture, other) for other in found]
            for number, other in zip(numbers, found):
                self.assertTrue(is_fitting(picture, other))
                self.assertEqual(number_of(picture, other), number)
            self.assertEqual(codes, sorted(codes))
            self.assertEqual(len(codes[0]), len(pieces(picture)) - 1)
            groups = pieces(picture)
            self.assertEqual(codes[-1], code_by_words(found[-1], groups))
            raised(self, NoNumber, tree_at, picture, many)
            raised(self, NoNumber, tree_at, picture, -1)

    def test_chances(self):
        for tree, picture in self.some_pictures():
            ties = known(picture)
            fixed = sure(picture)
            many = many_trees(picture)
            for block in range(1, 41):
                shares = chances(picture, block)
                self.assertIn(tree.hung[block - 1], shares)
                self.assertEqual(sum(fractions.Fraction(*share) for share in shares.values()), 1)
                for top, bottom in shares.values():
                    share = fractions.Fraction(top, bottom)
                    self.assertEqual((share.numerator, share.denominator), (top, bottom))
                    self.assertEqual(many * top % bottom, 0)
                self.assertEqual(block in fixed, len(shares) == 1)
                self.assertLessEqual(set(ties.items()), set(fixed.items()))
                if block in fixed:
                    self.assertEqual(shares, {fixed[block]: (1, 1)})

    def test_in_a_moment(self):
        for tree, picture in self.some_pictures():
            before = time.monotonic()
            for call in (known, pieces, open_places, many_trees, sure):
                call(picture)
            chances(picture, 40)
            tree_at(picture, number_of(picture, tree))
            self.assertLess(time.monotonic() - before, 5)

    def test_great_numbers(self):
        lost = seen(WIDE, (0, 0), ())
        self.assertEqual(many_trees(lost), 41 ** 39)
        self.assertEqual(many_trees(seen(LONG, (1, 0), tuple(range(1, 41)))), 41 ** 39)
        self.assertEqual(tree_at(lost, 0), WIDE)
        self.assertEqual(tree_at(lost, 41 ** 39 - 1).hung, (40,) * 39 + (0,))
        self.assertEqual(code(lost, LONG), tuple(range(39, -1, -1)))
        self.assertEqual(many_trees(seen(LONG, (1, 1), tuple(range(1, 41)))), 40 ** 38)
        self.assertEqual(many_trees(seen(LONG, (4, 4), tuple(range(1, 41)))), 37 ** 35)

    def test_third_fact_at_a_large_picture(self):
        picture = seen(LONG, (1, 1), (1, 5, 6, 7, 20, 21, 22, 23, 40))
        ties = known(picture)
        groups, lot = pieces(picture), open_places(picture)
        every = sum(len(part) for part in lot)
        for at in range(1, len(groups)):
            top = groups[at][0]
            shares = chances(picture, min(one for one in groups[at] if one not in ties))
            self.assertIn(top, groups[at])
            for other, part in enumerate(lot):
                for place in part:
                    if other == 0:
                        share = fractions.Fraction(len(lot[0]) + len(lot[at]),
                                                   len(lot[0]) * every)
                    else:
                        share = fractions.Fraction(1, every)
                    if other != at:
                        self.assertEqual(fractions.Fraction(*shares[place]), share)
                    else:
                        self.assertNotIn(place, shares)


class Always(unittest.TestCase):
    def test_all_views(self):
        for view in ALL_VIEWS:
            far = distance(view)
            self.assertEqual(always(view), (far - 1, (far - 1) // 2) if far else None)
        self.assertEqual(always((0, 4)), (4, 2))
        self.assertEqual(always((1, 4)), (5, 2))
        self.assertEqual(always((4, 0)), (0, 0))
        self.assertEqual(always((0, 1)), (1, 0))
        self.assertEqual(always((3, 3)), (4, 2))

    def test_fourth_fact_of_lost_blocks(self):
        for blocks in (1, 2, 3, 4):
            for view in ALL_VIEWS:
                if view == (0, 0):
                    continue
                most = always(view)[0]
                two = 0
                for told_there, trees in pictures_left(blocks, view):
                    lost = blocks + 1 - len(told_there)
                    if lost <= most:
                        self.assertEqual(len(trees), 1)
                        self.assertEqual(many_trees(Picture(view, blocks, told_there)), 1)
                    if lost == most + 1 and len(trees) > 1:
                        two += 1
                self.assertEqual(two > 0, blocks >= view[1] + 2, (blocks, view))

    def test_fourth_fact_of_wrong_blocks(self):
        """A picture midway between two trees is as near to the one as to the other."""
        for view in ALL_VIEWS:
            if view == (0, 0):
                continue
            _, most = always(view)
            for blocks in range(view[1] + 2, 9):
                self.assertTrue(self.is_midway(view, blocks, most + 1), (view, blocks))

    def is_midway(self, view, blocks, many):
        one, other = twins(view, blocks)
        unlike = [block for block in range(1, blocks + 1)
                  if told(one, view, block) != told(other, view, block)]
        made = {place: told(one, view, place) for place in range(blocks + 1)}
        for block in unlike[:many]:
            made[block] = told(other, view, block)
        if 2 * many > len(unlike):
            row, ties = made[unlike[0]]
            made[unlike[0]] = (row, tuple(sorted({*ties, (1, 1)})))
        picture = Picture(view, blocks, made)
        return len(wrong(picture, one)) == len(wrong(picture, other)) == many


class OneBlock(unittest.TestCase):
    def test_every_view(self):
        tree = Tree((0,))
        for view, lost in itertools.product(ALL_VIEWS, ((), (1,))):
            picture = seen(tree, view, lost)
            self.assertEqual((many_trees(picture), tree_at(picture, 0)), (1, tree))
            self.assertEqual((chances(picture, 1), sure(picture)), ({0: (1, 1)}, {1: 0}))
            is_known = view[1] > 0 or (view[0] > 0 and not lost)
            self.assertEqual(known(picture), {1: 0} if is_known else {})
            self.assertEqual(code(picture, tree), () if is_known else (0,))


class KnownByOthers(unittest.TestCase):
    def test_rows_tell_ties_of_lost_blocks(self):
        picture = seen(LONG, (4, 0), tuple(block for block in range(1, 41) if block != 20))
        self.assertEqual(known(picture), {20: 19, 19: 18, 18: 17, 17: 16})
        self.assertEqual(pieces(picture)[16], (16, 17, 18, 19, 20))
        self.assertEqual(len(pieces(picture)), 37)

    def test_told_blocks_can_be_tops(self):
        picture = seen(ROW, (0, 1), (1,))
        self.assertEqual(known(picture), {1: 0, 3: 2})
        self.assertEqual(pieces(picture), [(0, 1), (2, 3)])
        self.assertEqual(open_places(picture), [(1,), ()])

    def test_no_place_is_open_that_has_fewer_parents_than_down(self):
        tree = Tree((0, 1, 2, 3))
        picture = seen(tree, (0, 3), (1, 2, 3, 4))
        self.assertEqual(open_places(picture), [(3,), (4,)])
        picture = seen(tree, (0, 2), (1, 2, 3, 4))
        self.assertEqual(open_places(picture), [(2,), (3,), (4,)])
        picture = seen(tree, (0, 2), (2, 3, 4))
        self.assertEqual(open_places(picture), [(3,), (4,)])

    def test_moving_what_nobody_sees(self):
        tree = Tree(tuple(range(10)))
        picture = seen(tree, (1, 1), (5, 9, 10))
        self.assertTrue(is_fitting(picture, moved(tree, 10, 5)))
        self.assertEqual(many_trees(picture), 2)


if __name__ == "__main__":
    unittest.main()

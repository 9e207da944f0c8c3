"""[3.1]: pictures; with [0.3], [0.4] for them."""

import itertools
import random
import unittest

from foldervotes.errors import BadPicture, NoLot, NoView
from foldervotes.pictures import Picture, is_fitting, seen
from foldervotes.trees import Tree
from foldervotes.words import words_of
from tests.small import all_trees, changed, fitting, pictures_left, tellings
from tests.things import (ALL_VIEWS, HUGE, all_hung, chance_tree, lots, nested, not_views,
                          not_within, raised, strange_things, told)

ROW = Tree((0, 1, 2))
LONG = Tree(tuple(range(40)))
HEAD = ((), ((1, 0),))
TOLD = {0: HEAD, 1: ((0,), ((2, 1),)), 3: ((2,), ())}


class MakePictures(unittest.TestCase):
    def part(self, view, blocks, told_there):
        return raised(self, BadPicture, Picture, view, blocks, told_there).part

    def item(self, place, thing, view=(2, 2), blocks=3):
        """The part that is bad if a place tells a thing; None if the picture is right."""
        told_there = {0: ((), ()), place: thing}
        try:
            picture = Picture(view, blocks, told_there)
        except BadPicture as error:
            return error.part
        self.assertEqual(picture.told, told_there)
        return None

    def test_right_ones_are_kept(self):
        for view, blocks, told_there in (
                ((1, 1), 3, TOLD), ((4, 4), 40, {0: ((), ())}), ((0, 0), 1, {0: ((), ())}),
                ((0, 1), 1, {0: ((), ()), 1: ((), ())})):
            picture = Picture(view, blocks, told_there)
            self.assertEqual((picture.view, picture.blocks, picture.told),
                             (view, blocks, told_there))
            self.assertIs(type(picture.told), dict)

    def test_what_is_no_view(self):
        for thing in not_views():
            self.assertEqual(self.part(thing, 3, TOLD), "view")
            self.assertEqual(self.part(thing, 0, None), "view")

    def test_how_many_blocks(self):
        for thing in not_within(1, 40):
            self.assertEqual(self.part((1, 1), thing, TOLD), "blocks")
            self.assertEqual(self.part((1, 1), thing, None), "blocks")
        self.assertEqual(Picture((1, 1), 40, TOLD).blocks, 40)
        self.assertEqual(Picture((1, 1), 1, {0: HEAD}).blocks, 1)

    def test_what_is_no_dict_of_places(self):
        right = ((), ())
        for thing in strange_things() + not_within(0, -1) + [[right], (right,), [(0, right)]]:
            if isinstance(thing, dict) and list(thing) == [0]:
                continue
            self.assertEqual(self.part((1, 1), 3, thing), "told")
        for key in (-1, 4, HUGE, None, "0", b"", "told", (), (0,), (0, 0),
                    nested(lambda x: (x,), 1), BadPicture(1)):
            self.assertEqual(self.part((1, 1), 3, {0: right, key: right}), "told")
            self.assertEqual(self.part((1, 1), 3, {key: None, 0: None}), "told")

    def test_the_head_is_told(self):
        right = ((), ())
        self.assertEqual(self.part((0, 0), 3, {}), "told")
        self.assertEqual(self.part((0, 0), 3, {1: right, 2: right, 3: right}), "told")
        self.assertEqual(self.part((0, 0), 3, {1: None}), "told")

    def test_strange_items(self):
        for place in (0, 1, 3):
            for thing in strange_things():
                self.assertEqual(self.item(place, thing), place, thing)
                self.assertEqual(self.item(place, (thing, ())), place, thing)
                self.assertEqual(self.item(place, ((), thing)), place, thing)
                self.assertEqual(self.item(place, (thing, thing)), place, thing)
                self.assertEqual(self.item(place, ((), ((1, 0), thing))), place, thing)
            for thing in not_within(0, 3):
                self.assertEqual(self.item(place, ((thing,), ())), place, thing)
                self.assertEqual(self.item(place, ((), ((1, thing),))), place, thing)
            for thing in not_within(1, 3):
                self.assertEqual(self.item(place, ((), ((thing, 0),))), place, thing)

    def test_the_form_of_a_telling(self):
        for thing in ((), ((),), ((), (), ()), [(), ()], ((), []), ([], ()), "()", 0):
            self.assertEqual(self.item(1, thing), 1, thing)
        self.assertEqual(self.item(1, ((2, 0), ())), None)
        self.assertEqual(self.item(1, ((), ())), None)

    def test_the_row_has_at_most_up_places(self):
        for up in range(5):
            for many in range(7):
                bad = None if many <= up else 1
                self.assertEqual(self.item(1, ((2,) * many, ()), (up, 1)), bad)
                self.assertEqual(self.item(1, ((0,) * many, ()), (up, 1)), bad)

    def test_the_row_of_the_head_is_empty(self):
        for row in ((0,), (1,), (1, 0)):
            self.assertEqual(self.item(0, (row, ()), (4, 4)), 0)
        self.assertEqual(self.item(0, ((), ())), None)

    def test_ties_are_a_lot_of_pairs(self):
        for ties in (((2, 0), (1, 0)), ((1, 0), (1, 0)), ((1, 1), (1, 0)), ((3, 1), (2, 1)),
                     ((1,),), ((1, 0, 0),), ((0, 1),), ((1, 4),), ((4, 1),), ((1, -1),),
                     ([1, 0],), (1, 0), ((True, 0),), ((1, False),), "ab", [(1, 0)]):
            self.assertEqual(self.item(1, ((), ties)), 1, ties)
            self.assertEqual(self.item(0, ((), ties)), 0, ties)

    def test_the_form_alone(self):
        for ties in (((1, 1),), ((1, 0), (1, 2), (1, 3)), ((2, 3), (3, 2)), ((3, 0),)):
            for view in ((0, 0), (1, 0), (1, 1), (4, 4)):
                self.assertEqual(self.item(0, ((), ties), view), None)
                self.assertEqual(self.item(1, ((), ties), view), None)
        self.assertEqual(self.item(1, ((1, 1), ())), None)
        self.assertEqual(self.item(1, ((0, 2), ())), None)

    def test_the_least_place(self):
        right = ((), ())
        self.assertEqual(self.part((1, 1), 3, {3: None, 2: None, 0: right}), 2)
        self.assertEqual(self.part((1, 1), 3, {3: None, 0: None, 2: None}), 0)
        self.assertEqual(self.part((1, 1), 3, {3: None, 0: right, 1: right}), 3)
        self.assertEqual(self.part((1, 1), 40, {40: 1, 0: right, 9: 1, 10: 1}), 9)

    def test_the_parts_in_their_order(self):
        wrong = {1: None}
        self.assertEqual(self.part((5, 0), 41, wrong), "view")
        self.assertEqual(self.part((1, 1), 41, wrong), "blocks")
        self.assertEqual(self.part((1, 1), 40, wrong), "told")
        self.assertEqual(self.part((1, 1), 40, {0: ((), ()), **wrong}), 1)

    def test_a_copy_is_kept(self):
        told_there = {place: TOLD[place] for place in (3, 0, 1)}
        picture = Picture((1, 1), 3, told_there)
        told_there[2] = ((1,), ((3, 2),))
        del told_there[3]
        self.assertEqual(picture.told, TOLD)
        self.assertIsNot(picture.told, told_there)

    def test_a_refused_one_changes_nothing(self):
        told_there = {0: ((), ()), 2: [1], 1: None}
        self.assertEqual(self.part((1, 1), 3, told_there), 1)
        self.assertEqual(list(told_there.items()), [(0, ((), ())), (2, [1]), (1, None)])


class ComparePictures(unittest.TestCase):
    def test_equal_just_to_pictures_of_the_same(self):
        made = [((1, 1), 3, TOLD), ((1, 2), 3, TOLD), ((2, 1), 3, TOLD), ((1, 1), 4, TOLD),
                ((1, 1), 3, {0: HEAD}), ((1, 1), 3, {0: ((), ())}),
                ((1, 1), 3, {**TOLD, 3: ((1,), ())})]
        for one, other in itertools.product(made, repeat=2):
            self.assertEqual(Picture(*one) == Picture(*other), one == other)
            self.assertEqual(Picture(*one) != Picture(*other), one != other)

    def test_the_order_of_what_is_told_is_nothing(self):
        backwards = {place: TOLD[place] for place in reversed(TOLD)}
        self.assertEqual(Picture((1, 1), 3, TOLD), Picture((1, 1), 3, backwards))

    def test_equal_to_nothing_of_another_class(self):
        picture = Picture((1, 1), 3, TOLD)
        for thing in strange_things() + [TOLD, ROW, ((1, 1), 3, TOLD), words_of(ROW)]:
            self.assertFalse(picture == thing)
            self.assertFalse(thing == picture)
            self.assertTrue(picture != thing)


class Seen(unittest.TestCase):
    def test_each_lot_of_lost_blocks(self):
        for blocks in (1, 2, 3):
            for view in ALL_VIEWS:
                for tree, told_there in tellings(blocks, view):
                    for lost in lots(range(1, blocks + 1)):
                        self.check(tree, view, lost, told_there)
        for view in ((1, 1), (0, 2), (2, 0), (4, 4)):
            for tree, told_there in tellings(4, view):
                for lost in lots((1, 2, 3, 4)):
                    self.check(tree, view, lost, told_there)

    def check(self, tree, view, lost, told_there):
        picture = seen(tree, view, lost)
        self.assertIs(type(picture), Picture)
        expected = {place: worth for place, worth in enumerate(told_there) if place not in lost}
        self.assertEqual((picture.view, picture.blocks, picture.told),
                         (view, len(tree.hung), expected))

    def test_forty_blocks(self):
        tree = chance_tree(random.Random(1), 40, 5)
        for lost in ((), (40,), (1, 2, 39), tuple(range(1, 41)), tuple(range(2, 41, 2))):
            told_there = [told(tree, (3, 2), place) for place in range(41)]
            self.check(tree, (3, 2), lost, told_there)

    def test_what_is_no_view(self):
        for thing in not_views():
            raised(self, NoView, seen, ROW, thing, (1,))
            raised(self, NoView, seen, ROW, thing, None)
            raised(self, NoView, seen, ROW, thing, (0, 9))

    def test_what_is_no_lot(self):
        wrong = [(2, 1), (1, 1), (1, 2, 2), (0,), (0, 1), (4,), (1, 4), (1, 2, 3, 4), (True,),
                 (True, 2), (1, True), (-1,), (HUGE,), ("1",), (None,), ((1,),), [1], [], {}, "",
                 "1", b"", {1: 1}, 1, 0, None, (1, None), (1, [2]), (3, 2, 1), (1, 3, 2)]
        for thing in wrong + strange_things() + not_within(0, -1):
            if thing not in ((1, 2, 3), ()) and thing != (1,):
                raised(self, NoLot, seen, ROW, (1, 1), thing)
                raised(self, NoLot, seen, ROW, (0, 0), thing)
        raised(self, NoLot, seen, LONG, (0, 0), tuple(range(41)))
        raised(self, NoLot, seen, LONG, (0, 0), tuple(range(1, 42)))

    def test_equal_calls(self):
        self.assertEqual(seen(ROW, (1, 1), (2,)), seen(Tree((0, 1, 2)), (1, 1), (2,)))
        one = seen(ROW, (1, 1), (2,))
        one.told[2] = ((1,), ())
        self.assertEqual(sorted(seen(ROW, (1, 1), (2,)).told), [0, 1, 3])


class Fitting(unittest.TestCase):
    def test_all_trees_of_one_to_four_blocks(self):
        for blocks in (1, 2, 3, 4):
            for view in ALL_VIEWS if blocks < 4 else ((1, 1), (0, 2), (2, 0)):
                left = pictures_left(blocks, view)
                for told_there, trees in left if blocks < 4 else left[::9]:
                    picture = Picture(view, blocks, told_there)
                    fit = [tree for tree in all_trees(blocks) if is_fitting(picture, tree)]
                    self.assertEqual(fit, trees)

    def test_changed_tellings(self):
        chance = random.Random(8)
        for _ in range(300):
            view = chance.choice(ALL_VIEWS)
            tree, told_there = chance.choice(tellings(3, view))
            places = [0, *chance.choice(lots((1, 2, 3)))]
            made = {place: told_there[place] for place in places}
            at = chance.choice(places)
            made[at] = changed(chance, 3, view, told_there[at])
            made[0] = ((), made[0][1])
            picture = Picture(view, 3, made)
            fit = [other for other in all_trees(3) if is_fitting(picture, other)]
            self.assertEqual(fit, fitting(3, view, made))

    def test_flags_for_any_object(self):
        picture = seen(ROW, (1, 1), (1, 2))
        things = strange_things() + not_within(0, -1) + [picture, (0, 1, 2), words_of(ROW)]
        for thing in things:
            self.assertIs(is_fitting(picture, thing), isinstance(thing, Tree) and thing == ROW)
        self.assertIs(is_fitting(picture, ROW), True)
        self.assertIs(is_fitting(picture, Tree((0, 1, 1))), False)

    def test_other_numbers_of_blocks(self):
        empty = Picture((0, 0), 3, {0: ((), ())})
        for blocks in (1, 2, 3, 4):
            for hung in all_hung(blocks):
                self.assertIs(is_fitting(empty, Tree(hung)), blocks == 3)
        self.assertIs(is_fitting(Picture((0, 0), 2, {0: ((), ())}), LONG), False)
        self.assertIs(is_fitting(Picture((0, 1), 3, {0: HEAD}), Tree((0, 1))), False)

    def test_pictures_that_no_tree_fits(self):
        picture = Picture((1, 1), 2, {0: ((), ((1, 0), (2, 1))), 1: ((2,), ())})
        for tree in all_trees(2):
            self.assertIs(is_fitting(picture, tree), False)


if __name__ == "__main__":
    unittest.main()

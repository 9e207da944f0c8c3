"""Points 1 to 6 taken together: what is told of one tree, and of its blocks called anew."""

import itertools
import random
import unittest

from foldervotes.counts import many_by_wrong
from foldervotes.histories import (History, can_stand, fewest_calms, had, is_calm, is_verdict,
                                   many_pictures, now, verdict)
from foldervotes.losses import (chances, code, known, many_trees, number_of, open_places,
                                pieces, sure, tree_at)
from foldervotes.nests import cheapest, is_nest, nest
from foldervotes.pictures import Picture, is_fitting, seen
from foldervotes.reads import plan, read, reads
from foldervotes.trees import Tree, called, moved, place_of, under
from foldervotes.views import distance, telling, unlike
from foldervotes.words import Words, cost, votes, words_of, wrong_words
from foldervotes.wrongs import least_wrong, mended, nearest, wrong
from tests.scribble import scribbled
from tests.test_histories import chance_history
from tests.test_wrongs import spoilt
from tests.things import ALL_VIEWS, chance_tree


class OneTree(unittest.TestCase):
    """A tree, its picture, its words and its history tell the same of one another."""

    def test_pictures(self):
        chance = random.Random(1)
        for blocks in (1, 4, 10, 40):
            for view in ALL_VIEWS:
                tree = chance_tree(chance, blocks, 3)
                lost = tuple(sorted(chance.sample(range(1, blocks + 1),
                                                  chance.randint(0, min(3, blocks)))))
                self.check_picture(tree, view, lost)

    def check_picture(self, tree, view, lost):
        picture = seen(tree, view, lost)
        self.assertTrue(is_fitting(picture, tree))
        for block, place in {**known(picture), **sure(picture)}.items():
            self.assertEqual(place_of(tree, block), place)
        self.assertEqual(tree_at(picture, number_of(picture, tree)), tree)
        tops = [min(set(piece) - set(known(picture)) - {0}) for piece in pieces(picture)[1:]]
        self.assertEqual(sorted(code(picture, tree)),
                         sorted(place_of(tree, top) for top in tops))
        self.assertEqual(wrong(picture, tree), ())
        self.assertEqual(mended(picture), tree if len(lost) < distance(view) else None)
        for block in lost:
            picture = read(picture, block, telling(tree, view, block))
        self.assertEqual(picture, seen(tree, view, ()))
        if view != (0, 0):
            self.assertEqual((many_trees(picture), tree_at(picture, 0)), (1, tree))

    def test_other_trees_are_wrong_where_they_are_unlike(self):
        chance = random.Random(2)
        for view in ALL_VIEWS:
            for _ in range(10):
                tree = chance_tree(chance, 8, 3)
                other = moved(tree, 8, 0) if chance.random() < 0.5 else chance_tree(chance, 8, 3)
                if 0 in unlike(tree, other, view):
                    continue
                picture = seen(tree, view, ())
                self.assertEqual(wrong(picture, other), unlike(tree, other, view))
                self.assertEqual(is_fitting(picture, other), unlike(tree, other, view) == ())

    def test_nearest_trees_fit_what_is_not_wrong(self):
        chance = random.Random(3)
        for view in ((1, 1), (0, 2), (3, 0), (4, 4)):
            tree = chance_tree(chance, 6, 2)
            picture = spoilt(chance, tree, view, (), 2, None)
            for other in nearest(picture):
                gone = wrong(picture, other)
                self.assertEqual(len(gone), least_wrong(picture))
                left = {place: picture.told[place] for place in picture.told if place not in gone}
                self.assertTrue(is_fitting(Picture(view, 6, left), other))

    def test_words(self):
        chance = random.Random(4)
        for blocks in (1, 5, 40):
            tree = chance_tree(chance, blocks, 3)
            words = words_of(tree)
            self.assertEqual([places for _, places in votes(words)],
                             [(place,) for place in tree.hung])
            self.assertEqual((wrong_words(words, tree), cheapest(words)), (0, (0, tree)))
            for place in range(blocks + 1):
                listed = [block for block in range(1, blocks + 1) if words.lists[place][block - 1]]
                self.assertEqual(tuple(listed), under(tree, place))

    def test_words_of_a_picture_of_view_1_1(self):
        """What a place tells in view (1, 1) are its own words; with a lost block they are lost."""
        chance = random.Random(5)
        for _ in range(30):
            tree = chance_tree(chance, 6, 2)
            picture = seen(tree, (1, 1), tuple(sorted(chance.sample(range(1, 7), 2))))
            words = words_of(tree)
            ups = [words.ups[block - 1] if block in picture.told else None
                   for block in range(1, 7)]
            lists = [tuple(item if place in picture.told or place == block else None
                           for block, item in enumerate(words.lists[place], start=1))
                     for place in range(7)]
            found = Words(6, tuple(ups), tuple(lists))
            self.assertEqual(cheapest(found)[0], 0)
            self.assertEqual(many_by_wrong(found)[0], many_trees(picture))

    def test_histories(self):
        chance = random.Random(6)
        for blocks, many in ((1, 3), (4, 6), (12, 20), (40, 30)):
            for turning in (False, blocks > 1):
                history = chance_history(chance, blocks, many, 3, turning)
                words = words_of(now(history))
                self.assertTrue(can_stand(history, words))
                self.assertTrue(can_stand(history, words_of(history.tree)))
                for block, places in had(history).items():
                    self.assertIn(place_of(now(history), block), places)
                found = verdict(history)
                self.assertEqual(found[0] == "tree", fewest_calms(history) == ())
                self.assertEqual(found[0] == "tree", is_calm(history, ()))
                if found[0] == "tree":
                    self.assertTrue(cheapest(words)[0] == 0)
                else:
                    self.assertGreater(cheapest(found[2])[0], 0)

    def test_a_history_without_moves(self):
        tree = chance_tree(random.Random(7), 9, 3)
        history = History(tree, ())
        self.assertEqual((now(history), many_pictures(history), fewest_calms(history)),
                         (tree, 1, ()))
        self.assertEqual(had(history), {block: (place_of(tree, block),) for block in range(1, 10)})


class CalledAnew(unittest.TestCase):
    """Blocks that are called anew get the same answers by their new names."""

    def orders(self):
        chance = random.Random(8)
        for blocks in (1, 2, 5, 8):
            for _ in range(6):
                order = list(range(1, blocks + 1))
                chance.shuffle(order)
                yield chance, blocks, (0, *order)

    def told_anew(self, names, worth):
        row, ties = worth
        return (tuple(names[place] for place in row),
                tuple(sorted((names[block], names[place]) for block, place in ties)))

    def picture_anew(self, names, picture):
        return Picture(picture.view, picture.blocks,
                       {names[place]: self.told_anew(names, worth)
                        for place, worth in picture.told.items()})

    def test_pictures(self):
        for chance, blocks, names in self.orders():
            for view in ALL_VIEWS:
                tree = chance_tree(chance, blocks, 3)
                lost = tuple(sorted(chance.sample(range(1, blocks + 1), min(blocks, 3))))
                picture = seen(tree, view, lost)
                anew = self.picture_anew(names, picture)
                other = called(tree, names[1:])
                self.assertEqual(anew, seen(other, view, tuple(sorted(names[k] for k in lost))))
                self.check_left(names, picture, anew)

    def check_left(self, names, picture, anew):
        def lots_anew(row):
            return sorted(tuple(sorted(names[place] for place in lot)) for lot in row)
        for call in (known, sure):
            self.assertEqual(call(anew), {names[k]: names[at] for k, at in call(picture).items()})
        for call in (pieces, open_places):
            self.assertEqual(sorted(call(anew)), lots_anew(call(picture)))
        self.assertEqual(many_trees(anew), many_trees(picture))
        for block in range(1, picture.blocks + 1):
            self.assertEqual(chances(anew, names[block]), {
                names[place]: share for place, share in chances(picture, block).items()})
        if picture.view != (0, 0) and many_trees(picture) <= 60:
            self.assertEqual(reads(anew), reads(picture))
            self.assertEqual(plan(anew) is None, plan(picture) is None)

    def test_wrong_pictures(self):
        for chance, blocks, names in self.orders():
            for view in ALL_VIEWS[1::3]:
                tree = chance_tree(chance, blocks, 2)
                picture = spoilt(chance, tree, view, (), 2, None)
                anew = self.picture_anew(names, picture)
                self.assertEqual(wrong(anew, called(tree, names[1:])), tuple(sorted(
                    names[block] for block in wrong(picture, tree))))
                found = mended(picture)
                self.assertEqual(mended(anew), found and called(found, names[1:]))
                self.assertEqual(least_wrong(anew), least_wrong(picture))
                self.assertEqual(nearest(anew), sorted(
                    [called(other, names[1:]) for other in nearest(picture)],
                    key=lambda other: other.hung))

    def words_anew(self, names, words):
        ups, lists = {}, {}
        for block in range(1, words.blocks + 1):
            up = words.ups[block - 1]
            ups[names[block]] = None if up is None else names[up]
            for place in range(words.blocks + 1):
                lists[names[place], names[block]] = words.lists[place][block - 1]
        blocks = range(1, words.blocks + 1)
        return Words(words.blocks, tuple(ups[block] for block in blocks),
                     tuple(tuple(lists[place, block] for block in blocks)
                           for place in range(words.blocks + 1)))

    def test_words(self):
        for chance, blocks, names in self.orders():
            tree = chance_tree(chance, blocks, 3)
            self.assertEqual(words_of(called(tree, names[1:])),
                             self.words_anew(names, words_of(tree)))
            for many in (0, 2, 9, 40):
                words = scribbled(chance, tree, many)
                anew = self.words_anew(names, words)
                for block, place in itertools.product(range(1, blocks + 1), range(blocks + 1)):
                    if place != block:
                        self.assertEqual(cost(anew, names[block], names[place]),
                                         cost(words, block, place))
                for block, (least, places) in enumerate(votes(words), start=1):
                    found = tuple(sorted(names[place] for place in places))
                    self.assertEqual(votes(anew)[names[block] - 1], (least, found))
                self.assertEqual(wrong_words(anew, called(tree, names[1:])),
                                 wrong_words(words, tree))
                self.assertEqual(cheapest(anew)[0], cheapest(words)[0])
                self.assertEqual(many_by_wrong(anew), many_by_wrong(words))
                self.assertTrue(is_nest(anew, tuple(
                    (tuple(sorted(names[block] for block in lot)), number)
                    for lot, number in nest(words))))

    def test_histories(self):
        for chance, blocks, names in self.orders():
            history = chance_history(chance, blocks, 12, 3, blocks > 1)
            anew = History(called(history.tree, names[1:]), tuple(
                (names[block], names[place]) for block, place in history.moves))
            self.assertEqual(now(anew), called(now(history), names[1:]))
            self.assertEqual(had(anew), {
                names[block]: tuple(sorted(names[place] for place in places))
                for block, places in had(history).items()})
            self.assertEqual(many_pictures(anew), many_pictures(history))
            self.assertEqual(fewest_calms(anew), fewest_calms(history))
            found = verdict(history)
            self.assertEqual(verdict(anew)[0], found[0])
            inner = tuple(names[place] for place in found[1])
            thing = (found[0], inner, *[self.words_anew(names, words) for words in found[2:]])
            self.assertTrue(is_verdict(anew, thing))


class EqualCalls(unittest.TestCase):
    """Equal calls give equal results, and what is passed stays as it was."""

    def test_everything(self):
        for seed in range(4):
            one, other = self.results(seed), self.results(seed)
            self.assertEqual(one, other)

    def results(self, seed):
        chance = random.Random(seed)
        tree = chance_tree(chance, 8, 3)
        picture = seen(tree, (1, 1), (1, 4, 6))
        bad = spoilt(chance, tree, (1, 2), (2,), 2, None)
        words = scribbled(chance, tree, 20)
        history = chance_history(chance, 8, 12, 3, True)
        kept = (seen(tree, (1, 1), (1, 4, 6)), Picture(bad.view, 8, bad.told),
                Words(8, words.ups, words.lists), History(history.tree, history.moves))
        found = [call(picture) for call in (known, pieces, open_places, many_trees, sure, reads,
                                            plan, mended, nearest, least_wrong)]
        found += [call(bad) for call in (mended, nearest, least_wrong)]
        found += [wrong(picture, tree), code(picture, tree), number_of(picture, tree)]
        found += [chances(picture, 4), tree_at(picture, 0)]
        found += [call(words) for call in (votes, cheapest, nest, many_by_wrong)]
        found += [call(history) for call in (now, had, many_pictures, verdict, fewest_calms)]
        self.assertEqual((picture, bad, words, history), kept)
        return found

    def test_objects_of_unlike_classes(self):
        tree = Tree((0, 1))
        made = [tree, seen(tree, (1, 1), ()), words_of(tree), History(tree, ())]
        for one, other in itertools.permutations(made, 2):
            self.assertFalse(one == other)
            self.assertTrue(one != other)


if __name__ == "__main__":
    unittest.main()

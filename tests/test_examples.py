"""The examples e01 to e10, as the document writes them."""

import unittest

from foldervotes.counts import many_by_wrong
from foldervotes.disk import Disk
from foldervotes.histories import History, fewest_calms, had, many_pictures, verdict
from foldervotes.losses import (always, chances, many_trees, open_places, pieces, sure,
                                tree_at)
from foldervotes.nests import cheapest
from foldervotes.pictures import seen
from foldervotes.store import Store
from foldervotes.tales import tale
from foldervotes.trees import Tree
from foldervotes.views import distance, telling, unlike
from foldervotes.words import Words, votes


class Examples(unittest.TestCase):
    def setUp(self):
        self.row = Tree((0, 1, 2))
        self.p = seen(self.row, (1, 1), (1, 2, 3))
        self.w = Words(2, (0, 0), ((True, False), (False, True), (False, False)))
        self.h = History(Tree((0, 1)), ((2, 0), (1, 2)))

    def test_e01(self):
        self.assertEqual((telling(self.row, (2, 1), 2),
                          unlike(self.row, Tree((0, 1, 1)), (1, 1))),
                         (((1, 0), ((3, 2),)), (1, 2, 3)))

    def test_e02(self):
        self.assertEqual((pieces(self.p), open_places(self.p), many_trees(self.p)),
                         ([(0, 1), (2,), (3,)], [(1,), (2,), (3,)], 3))

    def test_e03(self):
        self.assertEqual([tree_at(self.p, number).hung for number in range(3)],
                         [(0, 1, 1), (0, 1, 2), (0, 3, 1)])

    def test_e04(self):
        self.assertEqual((chances(self.p, 3)[1], chances(self.p, 3)[2], sure(self.p)),
                         ((2, 3), (1, 3), {1: 0}))

    def test_e05(self):
        self.assertEqual((distance((1, 1)), always((1, 1)), always((2, 2)), always((0, 0))),
                         (3, (2, 1), (3, 1), None))

    def test_e06(self):
        self.assertEqual((votes(self.w), cheapest(self.w)[0], many_by_wrong(self.w)),
                         ([(0, (0,)), (1, (1,))], 1, (0, 1, 1, 0, 0, 1)))

    def test_e07(self):
        h = self.h
        self.assertEqual((had(h)[1], had(h)[2], many_pictures(h), fewest_calms(h), verdict(h)[0]),
                         ((0, 2), (0, 1), 64, (1,), "ring"))

    def begun(self):
        d = Disk(4)
        s = Store(d)
        s.folder("/a")
        s.make("/a/b", "hi")
        return d, s

    def test_e08(self):
        d, s = self.begun()
        self.assertEqual((s.entries("/a"), s.read("/a/b"), len(d.waiting()), s.calms()),
                         (["b"], "hi", 7, 0))

    def test_e09(self):
        self.assertEqual(
            tale(4, ["folder /a", "folder /b", "calm", "move /a /b/a", "move /b/a /c",
                     "move /b /c/b", "calms"]),
            ["ok", "ok", "ok", "ok", "ok", "ok", "2"])

    def test_e10(self):
        d, _ = self.begun()
        d.reach(("up", 2))
        self.assertEqual((d.cut(), Store(d).entries("/")), (6, []))


if __name__ == "__main__":
    unittest.main()

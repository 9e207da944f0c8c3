"""[8.3]: the facts of the cut, over all ways in which words of deeds reach a disk."""

import itertools
import random
import unittest

from foldervotes.disk import Disk
from foldervotes.errors import NameTwice, RingTold
from foldervotes.histories import History, verdict
from foldervotes.mount import mounted
from foldervotes.trees import Tree
from tests.plain_disk import all_reached, disk_of, some_reached, words_told
from tests.test_histories import has_ring
from tests.things import chance_tree


class Deeds:
    """A disk at a calm, deeds since, and all that each block had since."""

    def __init__(self, hung, names, bodies):
        self.disk = disk_of(len(hung), words_told(hung, names, bodies))
        self.hung = list(hung)
        self.ties = {block: {(place, "" if place == 1 else name)}
                     for block, (place, name) in enumerate(zip(hung, names), start=1)}
        self.bodies = {block: {body} for block, body in enumerate(bodies, start=1)}

    def write(self, key, worth):
        if self.disk.seen(key) != worth:
            self.disk.write(key, worth)

    def hang(self, block, place, name):
        elder = self.hung[block - 1]
        self.write(("up", block), (place, name))
        if elder != place:
            self.write(("lists", elder, block), None)
        self.write(("lists", place, block), name)
        self.hung[block - 1] = place
        self.ties[block].add((place, name))

    def give(self, block, body):
        self.write(("body", block), body)
        self.bodies[block].add(body)

    def never_fails(self):
        """Whether all ties since the calm make no ring and no name is there twice."""
        had = {block: {place for place, _ in ties} for block, ties in self.ties.items()}
        ends = [tie for block, ties in self.ties.items() if block != 1
                for tie in ties if tie[0] != 1]
        return not has_ring(had) and len(set(ends)) == len(ends)

    def check_mounted(self, test, disk):
        """Checks what is mounted of a disk behind a cut; whether that gives no error."""
        try:
            tree, names, bodies = mounted(disk)
        except (RingTold, NameTwice):
            return False
        for block in range(1, disk.size() + 1):
            tie = tree.hung[block - 1], names[block - 1]
            test.assertIn(tie, self.ties[block])
            test.assertIn(bodies[block - 1], self.bodies[block])
        return True


# What can be the words at a calm, with names that are unlike.
STARTS = [((0, 1, 1), ("", "", "")), ((0, 0, 0), ("", "x", "y")), ((0, 0, 2), ("", "x", "x")),
          ((0, 3, 0), ("", "y", "x")), ((0, 0, 1), ("", "y", "")), ((0, 1, 2), ("", "", "y"))]
TIES = [(block, place, name) for block in (2, 3) for place in (0, 1, 5 - block)
        for name in (("x", "y") if place != 1 else ("",))]


class AllWays(unittest.TestCase):
    def check(self, start, row):
        deeds = Deeds(*start, (None,) * len(start[0]))
        for tie in row:
            deeds.hang(*tie)
        found = [deeds.check_mounted(self, disk) for disk in all_reached(deeds.disk)]
        self.assertEqual(all(found), deeds.never_fails(), (start, row))
        return all(found)

    def test_rows_of_two_deeds(self):
        told = [self.check(start, row) for start in STARTS
                for row in itertools.product(TIES, repeat=2)]
        self.assertGreater(told.count(True), 100)
        self.assertGreater(told.count(False), 100)

    def test_rows_of_more_deeds(self):
        chance = random.Random(1)
        told = []
        for many, rows in ((3, 200), (4, 60)):
            for _ in range(rows):
                row = [chance.choice(TIES) for _ in range(many)]
                told.append(self.check(chance.choice(STARTS), row))
        self.assertGreater(told.count(True), 10)
        self.assertGreater(told.count(False), 10)

    def test_rows_of_deeds_of_one_block(self):
        for start in STARTS[:4]:
            for places in itertools.product((0, 1, 3), repeat=3):
                row = [(2, place, "" if place == 1 else "abc"[at])
                       for at, place in enumerate(places)]
                self.check(start, row)

    def test_bodies(self):
        deeds = Deeds((0, 0, 1), ("", "x", ""), (None, "one", None))
        for body in ("two", None, "three"):
            deeds.give(2, body)
        deeds.give(3, "more")
        deeds.hang(3, 0, "y")
        bodies = set()
        for disk in all_reached(deeds.disk):
            self.assertTrue(deeds.check_mounted(self, disk))
            bodies.add(mounted(disk)[2])
        self.assertEqual(bodies, {(None, one, other) for one in ("one", "two", None, "three")
                                  for other in (None, "more")})


class LongRows(unittest.TestCase):
    def test_by_chance(self):
        told = []
        for seed in range(120):
            chance = random.Random(seed)
            deeds = self.begun(chance, chance.choice([3, 4, 6, 9]))
            for at in range(chance.choice([2, 5, 12])):
                self.one_deed(chance, deeds, at, seed % 2 == 0)
            found = [deeds.check_mounted(self, some_reached(chance, deeds.disk))
                     for _ in range(30)]
            if deeds.never_fails():
                self.assertTrue(all(found))
            told.append(deeds.never_fails())
        self.assertGreater(told.count(True), 20)
        self.assertGreater(told.count(False), 20)

    def begun(self, chance, blocks):
        hung = (0, *chance_tree(chance, blocks - 1, 2).hung)
        hung = tuple(place + 1 if place else 0 for place in hung)
        names = ("", *["" if place == 1 else "n" + chr(96 + at)
                       for at, place in list(enumerate(hung, start=1))[1:]])
        return Deeds(hung, names, (None,) * blocks)

    def one_deed(self, chance, deeds, at, careful):
        """A deed; a careful one ties only above, and by a name that nobody had."""
        blocks = len(deeds.hung)
        block = chance.randint(2, blocks)
        if chance.random() < 0.3:
            deeds.give(block, chance.choice([None, "", "a text"]))
            return
        had = {other: {place for place, _ in ties} for other, ties in deeds.ties.items()}
        places = [place for place in range(blocks + 1) if place != block]
        if careful:
            places = [place for place in places if not has_ring(
                {**had, block: had[block] | {place}})]
        place = chance.choice(places)
        name = chance.choice(["x", "y", "z"]) if not careful else "m" + chr(97 + at)
        deeds.hang(block, place, "" if place == 1 else name)

    def test_ties_as_a_history_tells(self):
        """Some way makes a ring just if the verdict on the moves is one."""
        told = []
        for seed in range(40):
            chance = random.Random(seed)
            deeds, moves, tree = Deeds((0, 0, 0, 0), ("", *"abc"), (None,) * 4), [], [0] * 4
            while len(moves) < 4:
                block, place = chance.randint(2, 4), chance.choice([0, 2, 3, 4])
                way = [place]
                while way[-1]:
                    way.append(tree[way[-1] - 1])
                if block not in way:
                    tree[block - 1] = place
                    moves.append((block, place))
                    deeds.hang(block, place, "wxyz"[len(moves) - 1])
            found = [deeds.check_mounted(self, disk) for disk in all_reached(deeds.disk)]
            history = History(Tree((0,) * 4), tuple(moves))
            self.assertEqual(all(found), verdict(history)[0] == "tree")
            told.append(all(found))
        self.assertIn(True, told)
        self.assertIn(False, told)

    def test_nothing_done(self):
        deeds = Deeds((0, 1, 1), ("", "", ""), (None,) * 3)
        self.assertEqual(deeds.disk.waiting(), Disk(3).waiting())
        self.assertTrue(deeds.check_mounted(self, deeds.disk))


if __name__ == "__main__":
    unittest.main()

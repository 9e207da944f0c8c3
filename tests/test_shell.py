"""[11.1]: shells; with [0.3], [0.4] for them."""

import random
import unittest

from foldervotes.disk import Disk
from foldervotes.errors import (BadBody, Beneath, NameTwice, NoBlocks, NoLine, NoNumber, NoPath,
                                NotEmpty, NoText, NotFile, NotFolder, NotThere, RingTold,
                                TakenPath)
from foldervotes.mount import mounted, salvaged
from foldervotes.shell import Shell
from foldervotes.store import Store
from tests.plain_disk import LOST, state_of, words_on, words_told
from tests.plain_shell import PlainShell, answer, chance_line, words_in
from tests.plain_store import books_of
from tests.things import not_within, refused, strange_things

NO_LINES = [
    "", " ", "  ", "ok", "Calm", "CALM", "calmed", "cal", "calm ", " calm", "calm  ", "calm x",
    "calm 1", "make", "make ", "make  ", "make  x", "make /a", "make  /a x", " make /a x",
    "make\n/a x", "make /a x\n", "make /a\nx", "make /a \n", "\n", "calm\n", "\ncalm",
    "folder", "folder ", "folder /a ", "folder  /a", "folder /a /b", "folder /a x", "put",
    "put /a", "put ", "put  text", "move", "move ", "move /a", "move /a ", "move /a  /b",
    "move  /a /b", "move /a /b ", "move /a /b /c", "drop", "drop ", "drop /a ", "drop /a /b",
    "read", "read ", "read  /a", "read /a ", "read /a b", "list", "list ", "list / ", "list  /",
    "reach", "reach ", "reach  1", "reach 1 ", "reach 1 1", "reach 01", "reach 00", "reach -1",
    "reach +1", "reach 1.0", "reach one", "reach 1000000", "reach 0000001", "reach 1_0",
    "reach x", "reach 1a", "reach 0x1", "reach 00000", "cut ", "cut 1", " cut", "lose", "lose ",
    "lose 01", "lose 1000000", "lose -1", "lose 1 2", "lose x", "spoil", "spoil ", "spoil 00",
    "spoil 1 x", "spoil  1", "check ", "check 1", "calms ", "calms 1", "waits ", "waits 0",
    "wait", "size", "free", "names", "set a b", "commit", "kind /a", "entries /", "make/a x",
    "list/", "reach1", "1", "/", "/a", "exit", "help",
]


class MakeShell(unittest.TestCase):
    def test_no_number(self):
        for thing in not_within(2, 40) + [0, 1, 41]:
            refused(self, None, NoNumber, Shell, thing)

    def test_new_shells(self):
        for blocks in (2, 40):
            shell = Shell(blocks)
            self.assertEqual([shell.tell(line) for line in ("list /", "calms", "waits", "check")],
                             ["none", "0", "0", "0"])


class Lines(unittest.TestCase):
    def begun(self):
        shell = Shell(6)
        for line in ("folder /a", "make /a/f some text", "calm", "put /a/f other", "make /g "):
            self.assertEqual(shell.tell(line), "ok")
        return shell

    def test_what_is_no_line(self):
        shell = self.begun()
        for line in NO_LINES + strange_things() + [0, 1, ("calm",), ["calm"], b"calm", "a" * 5000]:
            refused(self, shell, NoLine, shell.tell, line)
            self.assertIsNone(words_in(line))

    def test_keys_beyond(self):
        for blocks in (2, 5):
            shell = Shell(blocks)
            many = len(Disk(blocks).all_keys())
            for word in ("lose", "spoil"):
                for number in (many, many + 1, 999999):
                    refused(self, shell, NoLine, shell.tell, f"{word} {number}")
                self.assertEqual(shell.tell(f"{word} {many - 1}"), "ok")
                self.assertEqual(shell.tell(f"{word} 0"), "ok")

    def test_texts(self):
        shell = Shell(4)
        for text in ("", " ", "x", " x", "x ", "  x  y  ", "a" * 40, " " * 40):
            self.assertEqual(shell.tell("make /a " + text), "ok")
            self.assertEqual(shell.tell("read /a"), text)
            self.assertEqual(shell.tell("put /a " + text[::-1]), "ok")
            self.assertEqual(shell.tell("read /a"), text[::-1])
            shell.tell("drop /a")
            shell.tell("calm")
        for text in ("A", "a" * 41, "a.", "/x", "1"):
            refused(self, shell, NoText, shell.tell, "make /a " + text)

    def test_what_the_store_raises(self):
        shell = self.begun()
        for line, kind, fields in (
                ("make a x", NoPath, ("a",)), ("make // x", NoPath, ("//",)),
                ("folder /A", NoPath, ("/A",)), ("list 1", NoPath, ("1",)),
                ("read ~", NoPath, ("~",)), ("drop /", NoPath, ("/",)),
                ("move / /x", NoPath, ("/",)), ("move /g g", NoPath, ("g",)),
                ("put /x y", NotThere, ("/",)), ("read /a/x/y", NotThere, ("/a",)),
                ("list /g", NotFolder, ("/g",)), ("make /g/x ", NotFolder, ("/g",)),
                ("read /a", NotFile, ("/a",)), ("folder /a", TakenPath, ("/a",)),
                ("make / x", TakenPath, ("/",)), ("move /a /a/b", Beneath, ()),
                ("drop /a", NotEmpty, ("/a",)), ("put /g A", NoText, ())):
            error = refused(self, shell, kind, shell.tell, line)
            self.assertEqual(tuple(vars(error).values()), fields, line)
        full = Shell(2)
        full.tell("folder /a")
        refused(self, full, NoBlocks, full.tell, "folder /b")

    def test_answers(self):
        shell = self.begun()
        self.assertEqual([shell.tell(line) for line in (
            "list /", "list /a", "read /a/f", "read /g", "calms", "waits", "list /a", "reach 2",
            "waits", "check", "cut", "waits", "calms")],
            ["a g", "f", "other", "", "1", "5", "f", "2", "3", "0", "ok", "0", "0"])

    def test_a_list_of_nothing(self):
        shell = self.begun()
        shell.tell("folder /e")
        self.assertEqual([shell.tell(line) for line in ("list /e", "list /", "list /a")],
                         ["none", "a e g", "f"])

    def test_cuts_and_what_comes_back(self):
        shell = self.begun()
        self.assertEqual(shell.tell("cut"), "ok")
        self.assertEqual((shell.tell("list /"), shell.tell("read /a/f")), ("a", "some text"))


class Reach(unittest.TestCase):
    def test_turn_and_turn_about(self):
        shell = Shell(4)
        for line in ("make /a one", "put /a two", "put /a three", "move /a /b"):
            shell.tell(line)
        disk = shell.disk
        # body three times, up twice, the list at 0 twice, that at 1 once.
        self.assertEqual(shell.tell("waits"), "8")
        keys = [("body", 2), ("lists", 0, 2), ("lists", 1, 2), ("up", 2)]
        order = keys + [keys[0], keys[1], keys[3], keys[0]]
        for at, key in enumerate(order):
            before = dict(disk.waiting())
            self.assertEqual(shell.tell("reach 1"), "1")
            after = dict(disk.waiting())
            self.assertEqual(before[key], after.get(key, 0) + 1, at)
            self.assertEqual(sum(before.values()), sum(after.values()) + 1)
        self.assertEqual((shell.tell("reach 1"), shell.tell("waits")), ("0", "0"))

    def test_many_at_once_as_one_by_one(self):
        for many in (0, 1, 2, 3, 5, 8, 13, 999999):
            one, other = Shell(5), Shell(5)
            for shell in (one, other):
                for line in ("make /a one", "put /a two", "folder /b", "move /b /c"):
                    shell.tell(line)
            due = min(many, int(one.tell("waits")))
            self.assertEqual(one.tell(f"reach {many}"), str(due))
            for _ in range(due):
                other.tell("reach 1")
            self.assertEqual(state_of(one.disk), state_of(other.disk))

    def test_from_the_one_behind_whatever_was_done_between(self):
        shell = Shell(5)
        shell.tell("make /a one")
        self.assertEqual(shell.tell("reach 2"), "2")  # body 2 and lists 0 2
        shell.tell("cut")
        shell.tell("lose 0")
        shell.tell("calm")
        shell.tell("make /b two")
        before = dict(shell.disk.waiting())
        self.assertEqual(shell.tell("reach 1"), "1")
        gone = set(before) - set(dict(shell.disk.waiting()))
        self.assertEqual(gone, {min(key for key in before if key > ("lists", 0, 2))})

    def test_behind_the_last_word_from_the_first(self):
        shell = Shell(3)
        shell.tell("folder /a")
        shell.tell("reach 3")
        shell.tell("make /b x")
        # The last one was the up word of block 2.
        for key in (("up", 3), ("body", 3), ("lists", 0, 3)):
            self.assertIn(key, dict(shell.disk.waiting()))
            shell.tell("reach 1")
            self.assertNotIn(key, dict(shell.disk.waiting()))


class LoseAndSpoil(unittest.TestCase):
    def begun(self):
        shell = Shell(4)
        for line in ("folder /a", "make /a/f text", "calm"):
            shell.tell(line)
        return shell

    def test_each_word(self):
        keys = Disk(4).all_keys()
        for number, key in enumerate(keys):
            shell = self.begun()
            there = shell.disk.word(key)
            self.assertEqual(shell.tell(f"spoil {number}"), "ok")
            if key[0] == "up":
                worth = (0, "spoilt")
            elif key[0] == "body":
                worth = "spoilt"
            else:
                worth = "spoilt" if there is None else None
            self.assertEqual(shell.disk.word(key), worth)
            self.assertEqual(shell.tell(f"lose {number}"), "ok")
            self.assertEqual(shell.disk.word(key), LOST)
            shell.tell(f"spoil {number}")
            self.assertEqual(shell.disk.word(key), (0, "spoilt") if key[0] == "up" else "spoilt")
            self.assertEqual([other for other in keys if shell.disk.word(other)
                              != self.begun().disk.word(other)], [key])
            self.assertEqual((shell.tell("waits"), shell.tell("check")), ("0", "1"))

    def test_a_list_that_has_no_letters_has_a_name(self):
        shell = Shell(2)
        number = shell.disk.all_keys().index(("lists", 1, 2))
        shell.tell(f"spoil {number}")
        self.assertEqual(shell.disk.word(("lists", 1, 2)), None)
        shell.tell(f"spoil {number}")
        self.assertEqual(shell.disk.word(("lists", 1, 2)), "spoilt")

    def test_check_mends(self):
        shell = self.begun()
        before = words_on(shell.disk)
        for number in range(len(before)):
            shell.tell(f"{'lose' if number % 3 else 'spoil'} {number}")
        self.assertEqual(shell.tell("check"), str(len(before)))
        self.assertEqual(shell.tell("check"), "0")
        self.assertEqual(shell.tell("calm"), "ok")
        self.assertEqual(words_on(shell.disk), before)


class CutsThatFail(unittest.TestCase):
    """A cut behind which the store can't be mounted."""

    def spoilt(self, words):
        shell = Shell(5)
        for line in ("folder /a", "folder /b", "make /b/f text", "calm", "make /g wait"):
            shell.tell(line)
        for key, worth in words.items():
            if worth == LOST:
                shell.disk.lose(key)
            else:
                shell.disk.spoil(key, worth)
        return shell

    def check(self, kind, fields, words):
        shell = self.spoilt(words)
        disk = shell.disk.copy()
        disk.cut()
        tree, names, bodies = salvaged(disk)
        with self.assertRaises(kind) as caught:
            shell.tell("cut")
        self.assertEqual(tuple(vars(caught.exception).values()), fields)
        bodies = [None if place == 1 else body for place, body in zip(tree.hung, bodies)]
        if 1 not in tree.hung[1:]:
            self.assertEqual(words_on(shell.disk), words_told(tree.hung, names, bodies))
        self.assertEqual(mounted(shell.disk), mounted(Store(shell.disk.copy()).disk()))
        self.assertEqual((shell.tell("waits"), shell.tell("calms"), shell.tell("check")),
                         ("0", "0", "0"))
        self.assertEqual(shell.tell("cut"), "ok")
        return shell

    def test_rings(self):
        shell = self.check(RingTold, ((2, 3),), {
            ("up", 2): (3, "a"), ("lists", 0, 2): None, ("lists", 3, 2): "a",
            ("up", 3): (2, "b"), ("lists", 0, 3): None, ("lists", 2, 3): "b"})
        self.assertEqual(len(books_of(shell.store)), 3)

    def test_names(self):
        shell = self.check(NameTwice, (0, "a"), {("up", 3): (0, "a")})
        self.assertEqual(shell.tell("list /"), "a b")

    def test_bodies(self):
        shell = self.check(BadBody, (4,), {("body", 4): LOST})
        self.assertEqual(shell.tell("read /b/f"), "")
        self.check(BadBody, (3,), {("body", 3): "text"})
        self.check(BadBody, (2,), {("up", 2): LOST, ("lists", 0, 2): LOST})


class LongRows(unittest.TestCase):
    def test_beside_a_disk_a_store_and_a_checker(self):
        told = set()
        for seed in range(60):
            chance = random.Random(seed)
            blocks = [2, 3, 5, 8][seed % 4]
            shell, plain = Shell(blocks), PlainShell(blocks)
            for at in range(150):
                line = chance_line(chance, plain.store)
                expected = answer(plain, line)
                self.assertEqual(answer(shell, line), expected, line)
                told.add(expected[0] if isinstance(expected, tuple) else line.split(" ")[0])
                if at % 10 == 0:
                    self.assertEqual(state_of(shell.disk), state_of(plain.disk))
            self.assertEqual(state_of(shell.disk), state_of(plain.disk))
            self.assertEqual(books_of(shell.store), books_of(plain.store))
        for word in ("make", "folder", "put", "move", "drop", "calm", "read", "list", "reach",
                     "cut", "lose", "spoil", "check", "calms", "waits", "NoLine", "NoPath",
                     "NotThere", "NotFolder", "NotFile", "TakenPath", "NoText", "Beneath",
                     "NotEmpty", "NoBlocks", "BadBody"):
            self.assertIn(word, told)


if __name__ == "__main__":
    unittest.main()

"""[13.1], [13.2]: desks, and tales of books; with [0.3], [0.4] for them."""

import random
import unittest

from foldervotes.desk import Desk, book_tale, texts_told
from foldervotes.errors import (NoBlocks, NoChanges, NoLine, NoLines, NoNumber, NotKept,
                                NotUnderWay, UnderWay)
from tests.plain_book import texts_of
from tests.plain_desk import FORMS, PlainDesk, chance_desk_line
from tests.plain_disk import state_of
from tests.plain_shell import answer, words_in
from tests.plain_store import books_of
from tests.test_tales import not_lines
from tests.things import not_within, raised, refused, strange_things

NO_LINES = [
    "", " ", "set", "set ", "set x", "set  x", "set  text", "set X text", "set x1 text",
    "set abcdefghi text", "set /x text", " set x text", "set x\ntext", "set x text\n", "set\nx t",
    "set 1 text", "set - text", "drop", "drop ", "drop  x", "drop x ", "drop x y", "drop X",
    "drop abcdefghi", "drop /x", "drop x\n", "begin ", " begin", "begin x", "begin 1", "begins",
    "Begin", "step ", "step 1", "steps", "commit ", "commit x", "commit x text", "forget ",
    "forget x", "show", "show ", "show  x", "show x ", "show x y", "show X", "show abcdefghi",
    "show /x", "names ", "names x", "name", "gathered ", "gathered x", "needs ", "needs x",
    "free ", "free 1", "calms ", "calms 0", "calm", "waits ", "wait", "commits ", "commits 1",
    "reach", "reach ", "reach  1", "reach 1 ", "reach 01", "reach -1", "reach 1000000",
    "reach x", "reach 1 1", "reach 00", "cut ", "cut 1", "cut\n", "\n", "lose 1", "spoil 1",
    "check", "make /a x", "list /", "read /root", "texts", "files x", "text x", "1",
]


class MakeDesk(unittest.TestCase):
    def test_numbers(self):
        for thing in not_within(2, 40) + [0, 1, 41]:
            refused(self, None, NoNumber, Desk, thing)
        refused(self, None, NoBlocks, Desk, 2)

    def test_new_desks(self):
        for blocks in (3, 40):
            desk = Desk(blocks)
            self.assertEqual([desk.tell(line) for line in (
                "names", "gathered", "needs", "free", "calms", "waits", "commits")],
                ["none", "none", "0", str(blocks - 3), "1", "0", "0"])


class Lines(unittest.TestCase):
    def begun(self, blocks=12):
        desk = Desk(blocks)
        for line in ("set x some text", "set y ", "commit"):
            desk.tell(line)
        return desk

    def test_what_is_no_line(self):
        desk = self.begun()
        desk.tell("set z waits")
        desk.tell("begin")
        desk.tell("set q gathered")
        for line in NO_LINES + strange_things() + [0, 1, ("begin",), ["step"], b"step", "a" * 999]:
            refused(self, desk, NoLine, desk.tell, line)
            self.assertIsNone(words_in(line, FORMS))

    def test_answers(self):
        desk = self.begun()
        self.assertEqual([desk.tell(line) for line in (
            "names", "show x", "show y", "free", "commits", "calms", "gathered", "set z  zet ",
            "drop x", "gathered", "needs", "begin", "gathered", "names", "step", "step", "step",
            "step", "step", "names", "show z", "commits", "step", "step", "free")],
            ["x y", "some text", "", "7", "1", "3", "none", "ok", "ok", "x z", "2", "7", "none",
             "x y", "6", "5", "4", "3", "2", "y z", " zet ", "2", "1", "0", "7"])

    def test_what_is_gathered(self):
        desk = self.begun()
        for line, told in (("set b one", "b"), ("set a two", "a b"), ("set b three", "a b"),
                           ("drop x", "a b x"), ("set x new", "a b x"), ("drop x", "a b x"),
                           ("forget", "none"), ("set a last", "a")):
            self.assertEqual(desk.tell(line), "ok")
            self.assertEqual(desk.tell("gathered"), told)
        self.assertEqual((desk.tell("commit"), desk.tell("names"), desk.tell("gathered")),
                         ("2", "a x y", "none"))
        self.assertEqual(desk.tell("show a"), "last")

    def test_a_change_in_the_place_of_an_elder_one(self):
        desk = self.begun()
        for line in ("set x other", "drop x", "set y why", "set y "):
            desk.tell(line)
        self.assertEqual(desk.tell("needs"), "1")
        desk.tell("commit")
        self.assertEqual((desk.tell("names"), desk.tell("show y")), ("y", ""))

    def test_no_changes(self):
        desk = self.begun()
        for line in ("set x A", "set x " + "a" * 401, "set q 1", "set q a.", "drop q", "drop z"):
            refused(self, desk, NoChanges, desk.tell, line)
        desk.tell("set q text")
        # It is gathered, but not kept.
        refused(self, desk, NoChanges, desk.tell, "drop q")
        self.assertEqual(desk.tell("set x " + "a" * 400), "ok")

    def test_what_the_book_raises(self):
        desk = self.begun(7)
        refused(self, desk, NotKept, desk.tell, "show q")
        refused(self, desk, NotUnderWay, desk.tell, "step")
        desk.tell("set x " + "b" * 400)
        for line in ("begin", "commit"):
            refused(self, desk, NoBlocks, desk.tell, line)
        self.assertEqual((desk.tell("gathered"), desk.tell("needs")), ("x", "11"))
        desk.tell("forget")
        desk.tell("drop x")
        desk.tell("begin")
        desk.tell("set y text")
        for line in ("begin", "commit", "needs"):
            refused(self, desk, UnderWay, desk.tell, line)
        self.assertEqual(desk.tell("gathered"), "y")

    def test_changes_that_will_not_do_any_more(self):
        desk = self.begun()
        desk.tell("drop x")
        desk.tell("begin")
        # x is kept till the second calm.
        self.assertEqual(desk.tell("drop x"), "ok")
        for _ in range(4):
            desk.tell("step")
        refused(self, desk, NoChanges, desk.tell, "drop x")
        while desk.tell("step") != "0":
            pass
        for line in ("needs", "begin", "commit"):
            refused(self, desk, NoChanges, desk.tell, line)
        self.assertEqual(desk.tell("gathered"), "x")
        desk.tell("set x back")
        self.assertEqual((desk.tell("commit"), desk.tell("names")), ("2", "x y"))

    def test_begin_of_nothing(self):
        desk = self.begun()
        self.assertEqual((desk.tell("begin"), desk.tell("commit"), desk.tell("commits")),
                         ("0", "0", "1"))
        desk.tell("set x some text")
        self.assertEqual((desk.tell("begin"), desk.tell("gathered")), ("0", "none"))
        refused(self, desk, NotUnderWay, desk.tell, "step")

    def test_cut(self):
        desk = self.begun()
        desk.tell("set x new")
        desk.tell("begin")
        for _ in range(3):
            desk.tell("step")
        desk.tell("set q gathered")
        self.assertEqual(desk.tell("cut"), "ok")
        self.assertEqual([desk.tell(line) for line in ("gathered", "names", "show x", "commits",
                                                       "calms")],
                         ["none", "x y", "some text", "0", "0"])
        refused(self, desk, NotUnderWay, desk.tell, "step")

    def test_a_root_that_reached_the_disk(self):
        desk = self.begun()
        desk.tell("set x new")
        desk.tell("begin")
        for _ in range(4):
            desk.tell("step")
        self.assertEqual((desk.tell("show x"), desk.tell("waits")), ("some text", "1"))
        self.assertEqual((desk.tell("reach 5"), desk.tell("cut")), ("1", "ok"))
        self.assertEqual(desk.tell("show x"), "new")

    def test_reach_turn_and_turn_about(self):
        desk, other = self.begun(), self.begun()
        for each in (desk, other):
            for line in ("set z " + "c" * 100, "begin", "step", "step", "step"):
                each.tell(line)
        many = int(desk.tell("waits"))
        self.assertEqual(desk.tell(f"reach {many - 1}"), str(many - 1))
        for _ in range(many - 1):
            self.assertEqual(other.tell("reach 1"), "1")
        self.assertEqual(state_of(desk.disk), state_of(other.disk))
        self.assertEqual((desk.tell("reach 999999"), desk.tell("reach 1")), ("1", "0"))


class LongRows(unittest.TestCase):
    def test_beside_a_disk_a_store_and_a_book(self):
        told = set()
        for seed in range(40):
            chance = random.Random(seed)
            blocks = [3, 6, 12, 24][seed % 4]
            desk, plain = Desk(blocks), PlainDesk(blocks)
            for at in range(120):
                line = chance_desk_line(chance)
                expected = answer(plain, line)
                self.assertEqual(answer(desk, line), expected, line)
                told.add(expected[0] if isinstance(expected, tuple) else line.split(" ")[0])
                if at % 10 == 0:
                    self.assertEqual(state_of(desk.disk), state_of(plain.disk))
            self.assertEqual(state_of(desk.disk), state_of(plain.disk))
            self.assertEqual(texts_of(desk.book), texts_of(plain.book))
            self.assertEqual(books_of(desk.book.store()), books_of(plain.store))
        self.assertLessEqual({word for word, _ in FORMS} | {
            "NoChanges", "NotKept", "UnderWay", "NotUnderWay", "NoBlocks"}, told)


class Tales(unittest.TestCase):
    def test_errors_in_their_order(self):
        for call in (book_tale, texts_told):
            for blocks in not_within(2, 40) + [0, 1, 41]:
                for lines in ([], ["names"], None, [1]):
                    raised(self, NoNumber, call, blocks, lines)
            for lines in ([], ["names"], None, [1], "names"):
                raised(self, NoBlocks, call, 2, lines)
            for lines in not_lines():
                raised(self, NoLines, call, 3, lines)
        self.assertEqual((book_tale(3, []), texts_told(3, ())), ([], {}))

    def test_errors_by_their_names(self):
        self.assertEqual(book_tale(5, [
            "x", "names ", "show x", "step", "drop x", "set x A", "set x text", "begin", "begin",
            "needs", "step\n", "set y " + "a" * 400, "step", "step", "step", "step", "step",
            "commit", "forget", "show x", "free"]),
            ["(NoLine)", "(NoLine)", "(NotKept)", "(NotUnderWay)", "(NoChanges)", "(NoChanges)",
             "ok", "5", "(UnderWay)", "(UnderWay)", "(NoLine)", "ok", "4", "3", "2", "1", "0",
             "(NoBlocks)", "ok", "text", "0"])

    def test_by_chance(self):
        for seed in range(30):
            chance = random.Random(seed)
            blocks = chance.choice([4, 9, 20])
            plain, expected, lines = PlainDesk(blocks), [], []
            for _ in range(60):
                lines.append(chance.choice(NO_LINES) if chance.random() < 0.05
                             else chance_desk_line(chance))
                found = answer(plain, lines[-1])
                expected.append(found if isinstance(found, str) else f"({found[0]})")
            kept = list(lines)
            for row in (lines, tuple(lines)):
                self.assertEqual(book_tale(blocks, row), expected)
                self.assertEqual(texts_told(blocks, row), texts_of(plain.book))
            self.assertEqual(lines, kept)

    def test_cuts_at_any_step(self):
        begin = ["set x " + "a" * 90, "set y why", "commit", "set x new", "drop y", "set z zet"]
        elder = {"x": "a" * 90, "y": "why"}
        after = {"x": "new", "z": "zet"}
        for steps in range(13):
            for reach in (0, 1, 3, 9, 999999):
                found = texts_told(30, [*begin, "begin", *["step"] * steps, f"reach {reach}",
                                        "cut"])
                # Behind three files and a calm the fifth step writes the root.
                if steps > 5 or steps == 5 and reach:
                    self.assertEqual(found, after)
                else:
                    self.assertEqual(found, elder)

    def test_what_is_returned_is_new(self):
        lines = ["set x text", "commit"]
        first = texts_told(6, lines)
        first["y"] = "more"
        self.assertEqual(texts_told(6, lines), {"x": "text"})
        told = book_tale(6, lines)
        told.append("x")
        self.assertEqual(book_tale(6, lines), ["ok", "2"])
        self.assertEqual(lines, ["set x text", "commit"])


if __name__ == "__main__":
    unittest.main()

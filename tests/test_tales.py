"""[11.2]: tales; with [0.3], [0.4] for them."""

import random
import unittest

from foldervotes.errors import BadText, NoLines, NoNumber
from foldervotes.tales import read_tale, tale, tale_text
from tests.plain_shell import FORMS, PlainShell, answer, chance_line, words_in
from tests.test_shell import NO_LINES
from tests.things import HUGE, nested, not_within, raised, strange_things

E09 = ["folder /a", "folder /b", "calm", "move /a /b/a", "move /b/a /c", "move /b /c/b", "calms"]


def not_lines():
    """What is no list or tuple of strings."""
    found = strange_things() + [
        0, 1, HUGE, "calm", b"calm", ["calm", None], ("calm", 1), ["calm", b"calm"], [["calm"]],
        (("calm",),), {"calm": "calm"}, {0: "calm"}, [True], nested(lambda x: [x], "calm"),
        ["calm", nested(lambda x: (x,), "calm", 39)]]
    return [thing for thing in found if not (isinstance(thing, (list, tuple))
                                             and all(isinstance(line, str) for line in thing))]


class Tale(unittest.TestCase):
    def test_no_number_then_no_lines(self):
        for blocks in not_within(2, 40) + [0, 1, 41]:
            for lines in ([], ["calm"], None, "calm", [1]):
                raised(self, NoNumber, tale, blocks, lines)
        for lines in not_lines():
            raised(self, NoLines, tale, 2, lines)

    def test_lists_and_tuples(self):
        for lines in ([], E09, ["calm", "no line"]):
            self.assertEqual(tale(4, lines), tale(4, tuple(lines)))
            self.assertIsInstance(tale(4, tuple(lines)), list)
        self.assertEqual(tale(2, []), [])

    def test_each_error_by_its_name(self):
        found = tale(6, ["folder /a", "make /a/f x", "make /g y", "calm",
                         "x", "make /a\n", "read a", "read /x", "list /g", "read /a",
                         "folder /g", "put /g A", "move /a /a/b", "drop /a",
                         "folder /b", "folder /c", "folder /d", "lose 999"])
        self.assertEqual(found, ["ok"] * 4 + [
            "(NoLine)", "(NoLine)", "(NoPath)", "(NotThere)", "(NotFolder)", "(NotFile)",
            "(TakenPath)", "(NoText)", "(Beneath)", "(NotEmpty)", "ok", "ok", "(NoBlocks)",
            "(NoLine)"])

    def of_words(self, *lines):
        """A tale of three blocks whose lines name keys."""
        keys = [("body", 2), ("body", 3), ("lists", 0, 2), ("lists", 0, 3), ("lists", 1, 2),
                ("lists", 1, 3), ("lists", 2, 3), ("lists", 3, 2), ("up", 2), ("up", 3)]
        return tale(3, [line if isinstance(line, str) else f"{line[0]} {keys.index(line[1:])}"
                        for line in lines])

    def test_cuts_that_fail(self):
        self.assertEqual(self.of_words("folder /a", "folder /b", "calm", ("lose", "body", 2),
                                       "cut", "read /a"), ["ok"] * 4 + ["(BadBody)", ""])
        self.assertEqual(self.of_words(
            ("spoil", "up", 2), ("spoil", "up", 3), ("spoil", "lists", 1, 2),
            ("spoil", "lists", 1, 3), "cut", "list /", "check"),
            ["ok"] * 4 + ["(NameTwice)", "a spoilt", "0"])
        # Each of the two is listed by the other one, and tells nothing itself.
        self.assertEqual(self.of_words(
            ("lose", "up", 2), ("lose", "up", 3), ("spoil", "lists", 1, 2),
            ("spoil", "lists", 1, 3), ("spoil", "lists", 2, 3), ("spoil", "lists", 3, 2), "cut",
            "waits"), ["ok"] * 6 + ["(RingTold)", "0"])

    def test_as_a_shell_tells(self):
        for seed in range(30):
            chance = random.Random(seed)
            plain, lines, expected = PlainShell(5), [], []
            for _ in range(60):
                line = chance.choice(NO_LINES) if chance.random() < 0.05 else chance_line(
                    chance, plain.store)
                lines.append(line)
                found = answer(plain, line)
                expected.append(found if isinstance(found, str) else f"({found[0]})")
            kept = list(lines)
            self.assertEqual(tale(5, lines), expected)
            self.assertEqual(tale(5, tuple(lines)), expected)
            self.assertEqual(lines, kept)

    def test_lists_are_new(self):
        first = tale(4, E09)
        first.append("x")
        self.assertEqual(tale(4, E09), ["ok"] * 6 + ["2"])


class Texts(unittest.TestCase):
    def test_text_of_lines(self):
        self.assertEqual(tale_text([]), "")
        self.assertEqual(tale_text(()), "")
        self.assertEqual(tale_text(["calm"]), "calm\n")
        self.assertEqual(tale_text(("calm", "make /a  x ", "cut")), "calm\nmake /a  x \ncut\n")
        # The lines need not have the shell's forms.
        self.assertEqual(tale_text(["", "no line", ""]), "\nno line\n\n")
        for lines in not_lines():
            raised(self, NoLines, tale_text, lines)

    def test_there_and_back(self):
        self.assertEqual(read_tale(""), [])
        for seed in range(30):
            chance = random.Random(seed)
            plain = PlainShell(5)
            lines = []
            for _ in range(chance.randint(1, 30)):
                lines.append(chance_line(chance, plain.store))
                answer(plain, lines[-1])
            found = read_tale(tale_text(lines))
            self.assertEqual(found, lines)
            found.append("x")
            self.assertEqual(read_tale(tale_text(tuple(lines))), lines)
        for word, form in FORMS:
            line = {"": word, "([^ ]+) (.*)": word + " x ", "([^ ]+) ([^ ]+)": word + " x y"}.get(
                form, word + " 999999")
            self.assertEqual(read_tale(line + "\n"), [line])

    def bad(self, text):
        return raised(self, BadText, read_tale, text).line

    def test_bad_texts(self):
        for line in NO_LINES:
            if "\n" in line:
                continue
            self.assertIsNone(words_in(line))
            self.assertEqual(self.bad(line + "\n"), 1)
            self.assertEqual(self.bad("calm\n" + line + "\n"), 2)
            self.assertEqual(self.bad("calm\ncut\n" + line + "\ncalm\n" + line + "\n"), 3)
        # The numbers of keys may be any.
        self.assertEqual(read_tale("lose 999999\nspoil 999999\n"), ["lose 999999", "spoil 999999"])

    def test_something_behind_the_last_line_feed(self):
        for text, line in (("calm", 1), ("calm\ncalm", 2), ("calm\nx", 2), ("x\ncalm", 1),
                           ("calm\ncut\n ", 3), ("calm\n\ncut", 2), (" ", 1)):
            self.assertEqual(self.bad(text), line)
        for text, line in (("\n", 1), ("\n\n", 1), ("calm\n\n", 2), ("calm\n\ncalm\n", 2)):
            self.assertEqual(self.bad(text), line)

    def test_no_text(self):
        for thing in strange_things() + [0, 1, ["calm\n"], ("calm\n",), b"calm\n"]:
            if not isinstance(thing, str):
                raised(self, NoLines, read_tale, thing)

    def test_a_tale_that_was_read(self):
        self.assertEqual(tale(4, read_tale(tale_text(E09))), ["ok"] * 6 + ["2"])


if __name__ == "__main__":
    unittest.main()

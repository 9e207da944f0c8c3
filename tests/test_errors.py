"""[0.3]: the error classes of the interface, also those of later parts."""

import copy
import pickle
import unittest

from foldervotes import errors
from foldervotes.errors import VoteError
from foldervotes.trees import Tree
from tests.things import strange_things

FIELDS = {
    "BadTree": ("part",), "NoBlock": (), "NoPlace": (), "Beneath": (), "NoOrder": (),
    "NoView": (), "OtherBlocks": (), "NoNumber": (), "BadPicture": ("part",), "NoLot": (),
    "NoTree": (), "NotFitting": (), "NoTelling": (), "TooMany": ("most",),
    "BadWords": ("part",), "BadHistory": ("part",), "NoWord": (), "NoWorth": (),
    "NothingWaits": (), "RingTold": ("blocks",), "NameTwice": ("place", "name"),
    "BadBody": ("block",), "NoPath": ("path",), "NotThere": ("path",),
    "NotFolder": ("path",), "NotFile": ("path",), "TakenPath": ("path",), "NoText": (),
    "NotEmpty": ("path",), "NoBlocks": (), "NoLine": (), "NoLines": (),
    "BadText": ("line",), "BadBook": ("path",), "NotKept": ("name",), "NoChanges": (),
    "UnderWay": (), "NotUnderWay": (),
}


class ErrorClasses(unittest.TestCase):
    def test_base(self):
        self.assertEqual(VoteError.__bases__, (ValueError,))
        self.assertIsInstance(VoteError(), ValueError)

    def test_each_derives_directly_from_the_base(self):
        for name in FIELDS:
            self.assertEqual(getattr(errors, name).__bases__, (VoteError,), name)

    def test_no_other_error(self):
        found = {name for name, thing in vars(errors).items() if isinstance(thing, type)}
        self.assertEqual(found, {"VoteError", *FIELDS})

    def test_defined_in_this_file(self):
        for name in ("VoteError", *FIELDS):
            made = getattr(errors, name)
            self.assertEqual((made.__module__, made.__name__), ("foldervotes.errors", name))


class ErrorFields(unittest.TestCase):
    def test_fields_are_kept_just_as_passed(self):
        things = strange_things() + [0, -1, 10 ** 79, (), ("ring", 1), "/", "/a/b"]
        for name, fields in FIELDS.items():
            for at, thing in enumerate(things):
                passed = [things[(at + k) % len(things)] for k in range(len(fields))]
                error = getattr(errors, name)(*passed)
                self.assertEqual(list(vars(error)), list(fields), name)
                for field, worth in zip(fields, passed):
                    self.assertIs(getattr(error, field), worth, (name, thing))

    def test_the_fields_of_one_error_are_in_their_order(self):
        error = errors.NameTwice(3, "a")
        self.assertEqual((error.place, error.name), (3, "a"))

    def test_what_is_kept_is_no_copy(self):
        passed = [1, [2]]
        error = errors.BadPicture(passed)
        passed.append(3)
        self.assertEqual(error.part, [1, [2], 3])
        tree = Tree((0,))
        self.assertIs(errors.RingTold(tree).blocks, tree)

    def test_made_with_just_the_fields(self):
        for name, fields in FIELDS.items():
            for many in range(4):
                if many == len(fields):
                    continue
                with self.assertRaises(TypeError, msg=(name, many)):
                    getattr(errors, name)(*range(many))

    def test_caught_as_what_they_are(self):
        for name, fields in FIELDS.items():
            for kind in (getattr(errors, name), VoteError, ValueError):
                with self.assertRaises(kind):
                    raise getattr(errors, name)(*fields)

    def test_copied_and_shown(self):
        for name, fields in FIELDS.items():
            error = getattr(errors, name)(*fields)
            for again in (copy.copy(error), pickle.loads(pickle.dumps(error))):
                self.assertIs(type(again), type(error))
                self.assertEqual(vars(again), vars(error))
            self.assertIsInstance(str(error), str)

    def test_what_an_error_says_is_the_name_of_its_class(self):
        for name, fields in FIELDS.items():
            self.assertEqual(str(getattr(errors, name)(*fields)), name)
        self.assertEqual(str(VoteError()), "VoteError")

    def test_equal_to_nothing_of_another_class(self):
        made = [getattr(errors, name)(*[1] * len(fields)) for name, fields in FIELDS.items()]
        for at, error in enumerate(made):
            for thing in made[:at] + made[at + 1:] + strange_things() + [1, (1,)]:
                self.assertFalse(error == thing)
                self.assertTrue(error != thing)


if __name__ == "__main__":
    unittest.main()

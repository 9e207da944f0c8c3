"""The form of the package: its interface, its imports, and the plain limits of its code."""

import ast
import builtins
import pathlib
import re
import unittest

PACKAGE = pathlib.Path(__file__).resolve().parent.parent / "foldervotes"
FILES = sorted(PACKAGE.glob("*.py"))

INTERFACE = {
    "errors": ("VoteError",),
    "trees": ("Tree", "place_of", "parents", "under", "beneath", "moved", "called"),
    "views": ("telling", "unlike", "distance", "twins"),
    "pictures": ("Picture", "seen", "is_fitting"),
    "losses": ("known", "sure", "chances", "pieces", "open_places", "many_trees", "number_of",
               "code", "tree_at", "always"),
    "reads": ("reads", "plan", "is_plan", "read"),
    "wrongs": ("wrong", "mended", "nearest", "least_wrong"),
    "words": ("Words", "words_of", "cost", "wrong_words", "votes"),
    "nests": ("cheapest", "nest", "is_nest"),
    "counts": ("many_by_wrong",),
    "histories": ("History", "now", "had", "can_stand", "is_verdict", "is_calm",
                  "many_pictures", "verdict", "fewest_calms"),
    "disk": ("Disk",),
    "mount": ("mounted", "salvaged"),
    "store": ("Store",),
    "checker": ("Checker",),
    "shell": ("Shell",),
    "tales": ("tale", "tale_text", "read_tale"),
    "books": ("Book",),
    "desk": ("Desk", "book_tale", "texts_told"),
}
ARGUMENTS = {
    "place_of": ["tree", "block"], "parents": ["tree", "block"], "under": ["tree", "place"],
    "beneath": ["tree", "place"], "moved": ["tree", "block", "place"],
    "called": ["tree", "order"], "telling": ["tree", "view", "place"],
    "unlike": ["tree", "other", "view"], "distance": ["view"], "twins": ["view", "blocks"],
    "seen": ["tree", "view", "lost"], "is_fitting": ["picture", "thing"],
    "known": ["picture"], "sure": ["picture"], "chances": ["picture", "block"],
    "pieces": ["picture"], "open_places": ["picture"], "many_trees": ["picture"],
    "number_of": ["picture", "tree"], "code": ["picture", "tree"],
    "tree_at": ["picture", "number"], "always": ["view"],
    "reads": ["picture"], "plan": ["picture"], "is_plan": ["picture", "most", "thing"],
    "read": ["picture", "block", "thing"], "wrong": ["picture", "tree"],
    "mended": ["picture"], "nearest": ["picture"], "least_wrong": ["picture"],
    "words_of": ["tree"], "cost": ["words", "block", "place"],
    "wrong_words": ["words", "tree"], "votes": ["words"], "cheapest": ["words"],
    "nest": ["words"], "is_nest": ["words", "thing"], "many_by_wrong": ["words"],
    "now": ["history"], "had": ["history"], "can_stand": ["history", "words"],
    "many_pictures": ["history"], "verdict": ["history"],
    "is_verdict": ["history", "thing"], "is_calm": ["history", "calms"],
    "fewest_calms": ["history"], "mounted": ["disk"], "salvaged": ["disk"],
    "tale": ["blocks", "lines"], "tale_text": ["lines"], "read_tale": ["text"],
    "book_tale": ["blocks", "lines"], "texts_told": ["blocks", "lines"],
}
METHODS = {
    "Tree": {"__init__": ["self", "hung"], "__eq__": ["self", "other"]},
    "Picture": {"__init__": ["self", "view", "blocks", "told"], "__eq__": ["self", "other"]},
    "Words": {"__init__": ["self", "blocks", "ups", "lists"], "__eq__": ["self", "other"]},
    "History": {"__init__": ["self", "tree", "moves"], "__eq__": ["self", "other"]},
    "Disk": {"__init__": ["self", "blocks"], "write": ["self", "key", "worth"],
             "reach": ["self", "key"], "lose": ["self", "key"], "word": ["self", "key"],
             "seen": ["self", "key"], "spoil": ["self", "key", "worth"],
             **{name: ["self"] for name in ("size", "all_keys", "waiting", "calm", "cut",
                                            "words", "copy")}},
    "Store": {"__init__": ["self", "disk"], "make": ["self", "path", "text"],
              "put": ["self", "path", "text"], "move": ["self", "path", "other"],
              **{name: ["self", "path"] for name in ("entries", "kind", "read", "block_of",
                                                     "folder", "drop")},
              **{name: ["self"] for name in ("disk", "calm", "calms", "free")}},
    "Checker": {"__init__": ["self", "store"],
                **{name: ["self"] for name in ("step", "round", "next_key")}},
    "Shell": {"__init__": ["self", "blocks"], "tell": ["self", "line"]},
    "Book": {"__init__": ["self", "store"], "text": ["self", "name"],
             "files": ["self", "name"],
             **{name: ["self", "changes"] for name in ("needs", "begin", "commit")},
             **{name: ["self"] for name in ("store", "names", "step", "commits")}},
    "Desk": {"__init__": ["self", "blocks"], "tell": ["self", "line"]},
}
LIBRARY = {"math": {"gcd"}, "itertools": {"combinations"}}

BUILTIN_NAMES = {name for name in dir(builtins) if not name.startswith("__")}
ALLOWED = set("""len range enumerate zip min max sum abs sorted reversed int str bool bytes
list tuple dict set frozenset isinstance ord repr any all divmod pow super ValueError KeyError
""".split())
BARRED = (ast.Global, ast.AsyncFunctionDef, ast.AsyncFor, ast.AsyncWith, ast.Await,
          ast.Import, ast.Set, ast.GeneratorExp)
WORDS = set("""type typing typing_extensions enum Enum IntEnum StrEnum Flag IntFlag Generic
Protocol ABC ABCMeta namedtuple NamedTuple TypedDict TYPE_CHECKING abstractmethod""".split())


def nodes(path):
    return list(ast.walk(ast.parse(path.read_text(encoding="utf-8"))))


class Form(unittest.TestCase):
    def test_interface_is_defined_where_it_is_listed(self):
        for name, listed in INTERFACE.items():
            body = ast.parse((PACKAGE / f"{name}.py").read_text()).body
            defined = {node.name: node for node in body
                       if isinstance(node, (ast.FunctionDef, ast.ClassDef))}
            for thing in listed:
                self.assertIn(thing, defined)
                if thing in ARGUMENTS:
                    found = [arg.arg for arg in defined[thing].args.args]
                    self.assertEqual(found, ARGUMENTS[thing])
                methods = {node.name: [arg.arg for arg in node.args.args]
                           for node in getattr(defined[thing], "body", [])
                           if isinstance(node, ast.FunctionDef)}
                for method, arguments in METHODS.get(thing, {}).items():
                    self.assertEqual(methods[method], arguments)

    def test_folder_holds_plain_files_alone(self):
        for path in PACKAGE.iterdir():
            if path.name != "__pycache__":
                self.assertRegex(path.name, r"\A[a-z_]+\.py\Z")

    def test_size_and_signs(self):
        for path in FILES:
            text = path.read_text(encoding="utf-8")
            self.assertLessEqual(set(text), set(map(chr, range(32, 127))) | {"\n"}, path)
            lines = text.split("\n")
            self.assertLessEqual(len(lines), 400, path)
            self.assertLessEqual(max(len(line) for line in lines), 120, path)
            for node in nodes(path):
                if isinstance(node, ast.FunctionDef):
                    self.assertLessEqual(node.end_lineno - node.lineno + 1, 40, node.name)

    def test_imports(self):
        asked = {}
        for path in FILES:
            asked[path.stem] = []
            for node in nodes(path):
                if isinstance(node, ast.ImportFrom):
                    self.assertEqual(node.level, 0)
                    names = {name.name for name in node.names}
                    if node.module in LIBRARY:
                        self.assertLessEqual(names, LIBRARY[node.module])
                        continue
                    self.assertRegex(node.module, r"\Afoldervotes\.[a-z_]+\Z")
                    self.assertNotIn("*", names)
                    asked[path.stem].append(node.module.split(".")[1])
        self.assertEqual(asked["__init__"], [])
        for name in asked:
            above = list(asked[name])
            for other in above:
                self.assertNotEqual(other, name)
                above.extend(next_one for next_one in asked[other] if next_one not in above)

    def test_words(self):
        for path in FILES:
            for node in nodes(path):
                self.assertNotIsInstance(node, BARRED, path)
                if isinstance(node, ast.Name) and node.id in BUILTIN_NAMES:
                    self.assertIn(node.id, ALLOWED, path)
                if isinstance(node, ast.Constant):
                    self.assertNotIsInstance(node.value, (float, complex), path)
                if isinstance(node, ast.BinOp):
                    self.assertNotIsInstance(node.op, ast.Div, path)
                if isinstance(node, (ast.FunctionDef, ast.ClassDef)):
                    self.assertEqual(node.decorator_list, [])
                    if node.name != "round":  # a method, as the interface has it
                        self.assertNotIn(node.name, BUILTIN_NAMES)
                for name in (getattr(node, "id", ""), getattr(node, "attr", ""),
                             getattr(node, "arg", "")):
                    self.assertNotIn(name, WORDS, path)

    def test_no_name_is_bound_to_a_builtin(self):
        for path in FILES:
            for node in nodes(path):
                if isinstance(node, ast.arg):
                    self.assertNotIn(node.arg, BUILTIN_NAMES)
                if isinstance(node, ast.Name) and isinstance(node.ctx, ast.Store):
                    self.assertNotIn(node.id, BUILTIN_NAMES)

    def test_no_name_has_two_meanings(self):
        for path in FILES:
            tree = ast.parse(path.read_text(encoding="utf-8"))
            bound = [name.name for node in tree.body if isinstance(node, ast.ImportFrom)
                     for name in node.names]
            self.assertLessEqual(set(bound), {node.id for node in ast.walk(tree)
                                              if isinstance(node, ast.Name)}, path)
            bound += [node.name for node in tree.body
                      if isinstance(node, (ast.FunctionDef, ast.ClassDef))]
            bound += [node.targets[0].id for node in tree.body if isinstance(node, ast.Assign)]
            self.assertEqual(len(bound), len(set(bound)), path)
            for function in [node for node in ast.walk(tree) if isinstance(node, ast.FunctionDef)]:
                local = {arg.arg for arg in function.args.args}
                local |= {node.id for node in ast.walk(function) if isinstance(node, ast.Name)
                          and isinstance(node.ctx, ast.Store)}
                self.assertFalse(local & set(bound), (path, function.name))
            for kind in [node for node in tree.body if isinstance(node, ast.ClassDef)]:
                methods = [node.name for node in kind.body if isinstance(node, ast.FunctionDef)]
                stored = {node.attr for node in ast.walk(kind) if isinstance(node, ast.Attribute)
                          and isinstance(node.ctx, ast.Store)}
                self.assertEqual(len(methods), len(set(methods)), kind.name)
                self.assertFalse(stored & set(methods), kind.name)

    def test_readme_names_what_landed(self):
        text = (PACKAGE.parent / "README.md").read_text()
        for name, listed in INTERFACE.items():
            for thing in (f"foldervotes.{name}", *listed):
                self.assertTrue(re.search(rf"\b{re.escape(thing)}\b", text), thing)


if __name__ == "__main__":
    unittest.main()

"""Rules of the language that a look at the package's files can see: files, sizes, signs, words, imports, names."""

import ast
import pathlib
import re
import unittest
import warnings

PACKAGE = pathlib.Path(__file__).resolve().parent.parent / "nearlocks"
FILES = sorted(PACKAGE.glob("*.py"))
BARRED = re.compile(r"\b(type|typing|typing_extensions|enum|Enum|IntEnum|StrEnum|Flag|IntFlag|Generic|Protocol|ABC|"
                    r"ABCMeta|namedtuple|NamedTuple|TypedDict|TYPE_CHECKING|abstractmethod)\b"
                    r"|dataclass|overload|contextmanager")
BUILTINS = set("""len range enumerate zip min max sum abs sorted reversed int str bool list tuple dict set isinstance
    ord repr any all divmod iter next super ValueError""".split())


def trees():
    return [(path.name, ast.parse(path.read_text())) for path in FILES]


def nodes(kind):
    return [(name, node) for name, tree in trees() for node in ast.walk(tree) if isinstance(node, kind)]


class LanguageTests(unittest.TestCase):
    def test_the_folder_holds_python_files_alone(self):
        found = [path.name for path in PACKAGE.iterdir() if path.name != "__pycache__"]
        self.assertEqual(sorted(found), [path.name for path in FILES])
        self.assertIn("__init__.py", found)

    def test_sizes(self):
        for path in FILES:
            rows = path.read_text().split("\n")
            self.assertLessEqual(len(rows), 400, path)
            self.assertLessEqual(max(map(len, rows)), 120, path)
        for name, node in nodes(ast.FunctionDef):
            self.assertLessEqual(node.end_lineno - node.lineno + 1, 40, (name, node.name))

    def test_signs_and_words(self):
        for path in FILES:
            text = path.read_text()
            self.assertEqual([sign for sign in text if not (" " <= sign <= "~" or sign == "\n")], [], path)
            self.assertIsNone(BARRED.search(text), path)
        for name, node in nodes(ast.Constant):
            self.assertNotIsInstance(node.value, (float, complex), name)
            if isinstance(node.value, str):
                self.assertNotIn("%", node.value, name)

    def test_no_warning_of_python(self):
        with warnings.catch_warnings():
            warnings.simplefilter("error")
            for path in FILES:
                compile(path.read_text(), str(path), "exec")

    def test_imports_name_the_file_that_defines(self):
        self.assertEqual(nodes(ast.Import), [])
        bound = {name[:-3]: [getattr(node, "name", None) or node.targets[0].id for node in tree.body
                             if isinstance(node, (ast.FunctionDef, ast.ClassDef, ast.Assign))]
                 for name, tree in trees()}
        for name, node in nodes(ast.ImportFrom):
            package, module = node.module.split(".")
            self.assertEqual((package, node.level), ("nearlocks", 0), name)
            for one in node.names:
                self.assertIn(one.name, bound[module], name)

    def test_names(self):
        for name, node in nodes((ast.Name, ast.arg)):
            word = node.id if isinstance(node, ast.Name) else node.arg
            self.assertFalse(word.startswith("_"), (name, word))
            if isinstance(node, ast.arg) or not isinstance(node.ctx, ast.Load):
                self.assertNotIn(word, BUILTINS, name)

    def test_no_name_of_an_import_or_a_class_is_given_another_meaning(self):
        for name, tree in trees():
            taken = {one.asname or one.name for node in tree.body if isinstance(node, ast.ImportFrom)
                     for one in node.names}
            taken |= {node.name for node in tree.body if isinstance(node, ast.ClassDef)}
            for node in ast.walk(tree):
                if isinstance(node, ast.arg):
                    self.assertNotIn(node.arg, taken, name)
                elif isinstance(node, ast.Name) and not isinstance(node.ctx, ast.Load):
                    self.assertNotIn(node.id, taken, name)

    def test_no_two_files_import_from_each_other(self):
        above = {name[:-3]: {node.module.split(".")[1] for node in tree.body if isinstance(node, ast.ImportFrom)}
                 for name, tree in trees()}
        for _ in above:
            above = {name: known.union(*[above[other] for other in known]) for name, known in above.items()}
        for name, known in above.items():
            self.assertNotIn(name, known)

    def test_methods_and_attributes_have_names_of_their_own(self):
        methods = {node.name for _, known in nodes(ast.ClassDef) for node in known.body
                   if isinstance(node, ast.FunctionDef)}
        stored = {node.attr for _, node in nodes(ast.Attribute) if not isinstance(node.ctx, ast.Load)}
        self.assertEqual(methods & stored, set())

    def test_is_stands_beside_none_and_truths_alone(self):
        for name, node in nodes(ast.Compare):
            for sign, other in zip(node.ops, node.comparators):
                if isinstance(sign, (ast.Is, ast.IsNot)):
                    self.assertIsInstance(other, ast.Constant, name)
                    self.assertIn(other.value, (None, True, False), name)

    def test_no_generator_expressions(self):
        # A class has __eq__: any, all, sorted and the like take lists.
        self.assertEqual([name for name, node in nodes(ast.GeneratorExp)], [])

    def test_classes_have_the_methods_of_the_interface_in_their_own_bodies(self):
        listed = {"House": ("__init__", "hand", "group", "within", "twin", "step", "__eq__", "__len__", "__str__"),
                  "Log": ("__init__", "step", "walk", "back", "house", "events", "entries", "__len__", "__eq__"),
                  "Desk": ("__init__", "say", "say_all", "log")}
        self.assertLessEqual(set(listed), {known.name for _, known in nodes(ast.ClassDef)})
        for _, known in nodes(ast.ClassDef):
            found = [node.name for node in known.body if isinstance(node, ast.FunctionDef)]
            for method in listed.get(known.name, ()):
                self.assertIn(method, found)


if __name__ == "__main__":
    unittest.main()

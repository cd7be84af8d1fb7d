"""The rules of the language subset that a plain look at the files can check."""

import ast
import builtins
import pathlib
import re
import unittest

PACKAGE = pathlib.Path(__file__).resolve().parent.parent / "alarmline"
FILES = sorted(PACKAGE.rglob("*.py"))
BARRED = re.compile(
    r"\b(type|typing|typing_extensions|enum|Enum|IntEnum|StrEnum|Flag|IntFlag|Generic|Protocol"
    r"|ABC|ABCMeta|namedtuple|NamedTuple|TypedDict|TYPE_CHECKING|abstractmethod)\b"
    r"|dataclass|overload|contextmanager"
)

ALLOWED = (
    "len range enumerate zip min max sum abs sorted reversed int str bool list tuple dict set isinstance"
    " ord repr any all divmod ValueError KeyError"
).split()


def names_in(node):
    """The names that a node of the tree binds or reads."""
    parts = [getattr(node, part, None) for part in ("id", "attr", "arg")]
    if isinstance(node, (ast.FunctionDef, ast.ClassDef)):
        parts.append(node.name)
    return [part for part in parts if isinstance(part, str)]


class Language(unittest.TestCase):
    def each_file(self):
        self.assertTrue(FILES)
        for path in FILES:
            with self.subTest(path.name):
                yield path, path.read_text(encoding="utf-8")

    def test_the_folder_holds_python_files_only(self):
        for path in PACKAGE.rglob("*"):
            if "__pycache__" not in path.parts:
                self.assertRegex(path.name, r"^[a-z0-9_]+(\.py)?$")

    def test_characters_and_sizes(self):
        for _, text in self.each_file():
            self.assertRegex(text, r"\A[ -~\n]*\Z")
            lines = text.split("\n")
            self.assertLessEqual(len(lines), 401)
            self.assertLessEqual(max(len(line) for line in lines), 120)

    def test_functions_are_short(self):
        for _, text in self.each_file():
            for node in ast.walk(ast.parse(text)):
                if isinstance(node, ast.FunctionDef):
                    self.assertLessEqual(node.end_lineno - node.lineno + 1, 40, node.name)

    def test_imports_are_of_the_package_by_full_names(self):
        for _, text in self.each_file():
            for node in ast.walk(ast.parse(text)):
                self.assertNotIsInstance(node, ast.Import)
                if isinstance(node, ast.ImportFrom):
                    self.assertEqual(node.level, 0)
                    self.assertTrue(node.module.startswith("alarmline."))

    def test_barred_words_do_not_occur(self):
        for _, text in self.each_file():
            self.assertIsNone(BARRED.search(text))

    def test_no_floats_and_no_percent_sign_in_strings(self):
        for _, text in self.each_file():
            for node in ast.walk(ast.parse(text)):
                self.assertNotIsInstance(node, ast.Div)
                if isinstance(node, ast.Constant):
                    self.assertNotIsInstance(node.value, float)
                    self.assertNotIn("%", str(node.value))

    def test_no_name_begins_with_an_underscore(self):
        for _, text in self.each_file():
            for node in ast.walk(ast.parse(text)):
                for name in names_in(node):
                    self.assertRegex(name, r"^([A-Za-z]|__init__$)", name)

    def test_no_name_is_a_method_and_an_attribute(self):
        methods, attributes = set(), set()
        for _, text in self.each_file():
            for node in ast.walk(ast.parse(text)):
                if isinstance(node, ast.ClassDef):
                    methods |= {part.name for part in node.body if isinstance(part, ast.FunctionDef)}
                if isinstance(node, ast.Attribute) and isinstance(node.ctx, ast.Store):
                    attributes.add(node.attr)
        self.assertEqual(methods & attributes, set())

    def test_only_the_builtins_of_the_subset_are_used(self):
        for _, text in self.each_file():
            for node in ast.walk(ast.parse(text)):
                if isinstance(node, ast.Name) and hasattr(builtins, node.id):
                    self.assertIn(node.id, ALLOWED)
                    self.assertIsInstance(node.ctx, ast.Load)

    def test_no_two_files_import_from_each_other(self):
        imports = {
            path.stem: [node.module.split(".")[1] for node in ast.walk(ast.parse(text))
                        if isinstance(node, ast.ImportFrom)]
            for path, text in self.each_file()
        }
        while imports:
            free = [name for name in imports if not set(imports[name]) & set(imports)]
            self.assertTrue(free, f"a ring among {sorted(imports)}")
            for name in free:
                del imports[name]


if __name__ == "__main__":
    unittest.main()

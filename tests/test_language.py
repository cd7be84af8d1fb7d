"""The rules of the language subset that a plain look at the files can check."""

import ast
import builtins
import pathlib
import re
import unittest

PACKAGE = pathlib.Path(__file__).resolve().parent.parent / "alarmline"
FILES = sorted(PACKAGE.rglob("*.py"))
BARRED = re.compile(
    r"\b(type|typing|typing_extensions|enum|Enum|IntEnum|StrEnum|Flag|IntFlag|Generic|Protocol"
    r"|ABC|ABCMeta|namedtuple|NamedTuple|TypedDict|TYPE_CHECKING|abstractmethod)\b"
    r"|dataclass|overload|contextmanager"
)

ALLOWED = (
    "len range enumerate zip min max sum abs sorted reversed int str bool list tuple dict set isinstance"
    " ord repr any all divmod ValueError KeyError"
).split()


def names_in(node):
    """The names that a node of the tree binds or reads."""
    parts = [getattr(node, part, None) for part in ("id", "attr", "arg")]
    if isinstance(node, (ast.FunctionDef, ast.ClassDef)):
        parts.append(node.name)
    return [part for part in parts if isinstance(part, str)]


class Language(unittest.TestCase):
    def each_file(self):
        self.assertTrue(FILES)
        for path in FILES:
            with self.subTest(path.name):
                yield path, path.read_text(encoding="utf-8")

    def test_the_folder_holds_python_files_only(self):
        for path in PACKAGE.rglob("*"):
            if "__pycache__" not in path.parts:
                self.assertRegex(path.name, r"^[a-z0-9_]+(\.py)?$")

    def test_characters_and_sizes(self):
        for _, text in self.each_file():
            self.assertRegex(text, r"\A[ -~\n]*\Z")
            lines = text.split("\n")
            self.assertLessEqual(len(lines), 401)
            self.assertLessEqual(max(len(line) for line in lines), 120)

    def test_functions_are_short(self):
        for _, text in self.each_file():
            for node in ast.walk(ast.parse(text)):
                if isinstance(node, ast.FunctionDef):
                    self.assertLessEqual(node.end_lineno - node.lineno + 1, 40, node.name)

    def test_imports_are_of_the_package_by_full_names(self):
        for _, text in self.each_file():
            for node in ast.walk(ast.parse(text)):
                self.assertNotIsInstance(node, ast.Import)
                if isinstance(node, ast.ImportFrom):
                    self.assertEqual(node.level, 0)
                    self.assertTrue(node.module.startswith("alarmline."))

    def test_barred_words_do_not_occur(self):
        for _, text in self.each_file():
            self.assertIsNone(BARRED.search(text))

    def test_no_floats_and_no_percent_sign_in_strings(self):
        for _, text in self.each_file():
            for node in ast.walk(ast.parse(text)):
                self.assertNotIsInstance(node, ast.Div)
                if isinstance(node, ast.Constant):
                    self.assertNotIsInstance(node.value, float)
                    self.assertNotIn("%", str(node.value))

    def test_no_name_begins_with_an_underscore(self):
        for _, text in self.each_file():
            for node in ast.walk(ast.parse(text)):
                for name in names_in(node):
                    self.assertRegex(name, r"^([A-Za-z]|__init__$)", name)

    def test_no_name_is_a_method_and_an_attribute(self):
        methods, attributes = set(), set()
        for _, text in self.each_file():
            for node in ast.walk(ast.parse(text)):
                if isinstance(node, ast.ClassDef):
                    methods |= {part.name for part in node.body if isinstance(part, ast.FunctionDef)}
                if isinstance(node, ast.Attribute) and isinstance(node.ctx, ast.Store):
                    attributes.add(node.attr)
        self.assertEqual(methods & attributes, set())

    def test_only_the_builtins_of_the_subset_are_used(self):
        for _, text in self.each_file():
            for node in ast.walk(ast.parse(text)):
                if isinstance(node, ast.Name) and hasattr(builtins, node.id):
                    self.assertIn(node.id, ALLOWED)
                    self.assertIsInstance(node.ctx, ast.Load)

    def test_at_module_level_stand_plain_values_bound_once(self):
        for _, text in self.each_file():
            bound = []
            for node in ast.parse(text).body:
                if isinstance(node, ast.Assign):
                    bound += [target.id for target in node.targets]
                    ast.literal_eval(node.value)
                elif isinstance(node, ast.ImportFrom):
                    bound += [alias.asname or alias.name for alias in node.names]
                elif isinstance(node, (ast.FunctionDef, ast.ClassDef)):
                    bound.append(node.name)
                else:
                    self.assertIsInstance(node.value.value, str)
            self.assertEqual(len(bound), len(set(bound)))

    def test_no_local_name_is_that_of_a_class_an_import_or_a_builtin(self):
        for _, text in self.each_file():
            tree = ast.parse(text)
            taken = set(vars(builtins)) | {node.name for node in tree.body if isinstance(node, ast.ClassDef)}
            for node in tree.body:
                if isinstance(node, ast.ImportFrom):
                    taken |= {alias.asname or alias.name for alias in node.names}
            for node in ast.walk(tree):
                if isinstance(node, ast.arg):
                    self.assertNotIn(node.arg, taken)
                if isinstance(node, ast.Name) and isinstance(node.ctx, ast.Store):
                    self.assertNotIn(node.id, taken)

    def test_is_stands_beside_none_true_or_false_only(self):
        for _, text in self.each_file():
            for node in ast.walk(ast.parse(text)):
                if isinstance(node, ast.Compare) and any(isinstance(op, (ast.Is, ast.IsNot)) for op in node.ops):
                    self.assertTrue(all(getattr(right, "value", 0) in (None, True, False) for right in node.comparators))

    def test_no_statement_or_expression_beyond_the_subset(self):
        for _, text in self.each_file():
            for node in ast.walk(ast.parse(text)):
                self.assertNotIsInstance(node, (
                    ast.Global, ast.AsyncFunctionDef, ast.Await, ast.AnnAssign, ast.GeneratorExp, ast.Lambda, ast.Yield,
                ))
                if isinstance(node, ast.ExceptHandler):
                    self.assertNotIn(getattr(node.type, "id", None), (None, "ValueError", "Exception", "TypeError"))
                if isinstance(node, ast.Raise):
                    self.assertIsInstance(node.exc, ast.Call)
                    self.assertIsInstance(node.exc.func, ast.Name)

    def test_no_two_files_import_from_each_other(self):
        imports = {
            path.stem: [node.module.split(".")[1] for node in ast.walk(ast.parse(text))
                        if isinstance(node, ast.ImportFrom)]
            for path, text in self.each_file()
        }
        while imports:
            free = [name for name in imports if not set(imports[name]) & set(imports)]
            self.assertTrue(free, f"a ring among {sorted(imports)}")
            for name in free:
                del imports[name]


if __name__ == "__main__":
    unittest.main()

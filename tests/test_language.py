"""The form of the code: what of the rules can be seen with little."""

import ast
import builtins
import pathlib
import re
import unittest

ROOT = pathlib.Path(__file__).resolve().parent.parent
FILES = sorted((ROOT / "stealbeats").rglob("*.py"))
BARRED = ("type", "typing", "typing_extensions", "enum", "Enum", "IntEnum", "StrEnum", "Flag", "IntFlag", "Generic",
          "Protocol", "ABC", "ABCMeta", "namedtuple", "NamedTuple", "TypedDict", "TYPE_CHECKING", "abstractmethod")
BUILTINS = set("""len range enumerate zip min max sum abs sorted reversed int str bool list tuple dict set isinstance
    ord repr any all divmod super ValueError""".split())
NODES = (ast.Global, ast.AsyncFunctionDef, ast.Await, ast.Div, ast.Import)


class Language(unittest.TestCase):
    def each(self):
        for path in FILES:
            text = path.read_text(encoding="utf-8")
            yield path.name, text, ast.parse(text)

    def test_files(self):
        self.assertTrue((ROOT / "stealbeats" / "__init__.py").is_file())
        kept = [path for path in (ROOT / "stealbeats").rglob("*") if "__pycache__" not in path.parts]
        self.assertEqual(sorted(kept), FILES)

    def test_lines_and_signs(self):
        for name, text, tree in self.each():
            lines = text.split("\n")
            self.assertLessEqual(len(lines), 401, name)
            for line in lines:
                self.assertLessEqual(len(line), 120, name)
                self.assertTrue(all(" " <= sign <= "~" for sign in line), (name, line))
            for word in BARRED:
                self.assertIsNone(re.search(rf"\b{word}\b", text), (name, word))

    def test_functions_are_short(self):
        for name, text, tree in self.each():
            for node in ast.walk(tree):
                if isinstance(node, ast.FunctionDef):
                    self.assertLessEqual(node.end_lineno - node.lineno + 1, 40, (name, node.name))

    def test_statements_and_names(self):
        for name, text, tree in self.each():
            own = {node.name for node in ast.walk(tree) if isinstance(node, (ast.FunctionDef, ast.ClassDef))}
            own |= {alias.name for node in ast.walk(tree) if isinstance(node, ast.ImportFrom) for alias in node.names}
            for node in ast.walk(tree):
                self.assertNotIsInstance(node, NODES, name)
                if isinstance(node, ast.ImportFrom):
                    self.assertTrue(node.module.startswith("stealbeats."), name)
                if isinstance(node, ast.Call) and isinstance(node.func, ast.Name):
                    self.assertIn(node.func.id, own | BUILTINS, name)
                if isinstance(node, ast.Constant):
                    self.assertNotIsInstance(node.value, float, name)
                    self.assertNotIn("%", str(node.value), name)

    def test_attributes_are_assigned_through_a_local_name(self):
        for name, text, tree in self.each():
            for node in ast.walk(tree):
                if isinstance(node, ast.Attribute) and isinstance(node.ctx, ast.Store):
                    self.assertIsInstance(node.value, ast.Name, (name, node.lineno))

    def test_local_names_are_their_own(self):
        for name, text, tree in self.each():
            taken = {alias.name for node in tree.body if isinstance(node, ast.ImportFrom) for alias in node.names}
            taken |= {node.name for node in tree.body if isinstance(node, ast.ClassDef)} | set(dir(builtins))
            for node in ast.walk(tree):
                if isinstance(node, ast.arg):
                    self.assertNotIn(node.arg, taken, name)
                if isinstance(node, ast.Name) and isinstance(node.ctx, ast.Store):
                    self.assertNotIn(node.id, taken, name)

    def test_files_do_not_import_each_other_in_a_ring(self):
        imports = {name[:-3]: {node.module.split(".")[1] for node in tree.body if isinstance(node, ast.ImportFrom)}
                   for name, text, tree in self.each()}
        while imports:
            free = [name for name in imports if not imports[name] & set(imports)]
            self.assertTrue(free, sorted(imports))
            imports = {name: imports[name] for name in imports if name not in free}

    def test_names_are_imported_from_the_file_that_defines_them(self):
        trees = {name[:-3]: tree for name, text, tree in self.each()}
        for name, tree in trees.items():
            for node in [node for node in tree.body if isinstance(node, ast.ImportFrom)]:
                body = trees[node.module.split(".")[1]].body
                defined = {part.name for part in body if isinstance(part, (ast.FunctionDef, ast.ClassDef))}
                defined |= {part.targets[0].id for part in body if isinstance(part, ast.Assign)}
                used = {part.id for part in ast.walk(tree) if isinstance(part, ast.Name)}
                for alias in node.names:
                    self.assertIn(alias.name, defined & used, name)
                    self.assertIsNone(alias.asname)

    def test_no_name_is_a_method_and_an_attribute(self):
        methods, attributes = set(), set()
        for name, text, tree in self.each():
            for node in ast.walk(tree):
                if isinstance(node, ast.ClassDef):
                    methods |= {part.name for part in node.body if isinstance(part, ast.FunctionDef)}
                if isinstance(node, ast.Attribute) and isinstance(node.ctx, ast.Store):
                    attributes.add(node.attr)
        self.assertEqual(methods & attributes, set())

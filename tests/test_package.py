"""The interface stands where the document lists it, and the files keep to the plainest rules of the subset."""

import ast
import pathlib
import unittest
import warnings

PACKAGE = pathlib.Path(__file__).resolve().parent.parent / "fencewright"

INTERFACE = {
    "errors.py": {name: None for name in ("WebError", "BadWeb", "NoMove", "NotOver", "NoPlace", "NoText")},
    "webs.py": {"need_web": ["web"], "places": ["web"], "fenced": ["web", "some"]},
    "states.py": {
        "begun": ["web"],
        "can": ["web", "state", "move"],
        "moved": ["web", "state", "move"],
        "is_over": ["web", "state"],
        "end_of": ["web", "state"],
    },
    "ends.py": {
        "woven": ["web", "weaving"],
        "is_prompt": ["web", "weaving"],
        "ends": ["web"],
        "prompt_ends": ["web"],
    },
    "fences.py": {"fences": ["web"]},
    "notes.py": {"shown": ["web"], "read": ["text"]},
}

BUILTINS = (
    "len range enumerate zip min max sum abs sorted reversed int str bool list tuple dict set isinstance ord repr "
    "any all divmod ValueError TypeError KeyError IndexError"
).split()

NODES = (
    "Module Expr Constant FunctionDef arguments arg ClassDef ImportFrom alias Assign AugAssign Name Load Store Return "
    "If For While Break Continue Pass Raise Call keyword Attribute Subscript Slice List Tuple Dict ListComp DictComp "
    "comprehension BinOp Add Sub Mult FloorDiv Mod Pow UnaryOp USub Not BoolOp And Or Compare Eq NotEq Lt LtE Gt GtE "
    "In NotIn Is IsNot IfExp Starred JoinedStr FormattedValue"
).split()


def sources():
    return [(path.name, path.read_text(encoding="utf-8")) for path in sorted(PACKAGE.glob("*.py"))]


class TestInterface(unittest.TestCase):
    def test_each_name_is_defined_in_its_own_file(self):
        for name, wanted in INTERFACE.items():
            found = {}
            for node in ast.parse((PACKAGE / name).read_text(encoding="utf-8")).body:
                if isinstance(node, ast.ClassDef):
                    found[node.name] = None
                if isinstance(node, ast.FunctionDef):
                    found[node.name] = [one.arg for one in node.args.args]
            for word, arguments in wanted.items():
                self.assertIn(word, found, name)
                self.assertEqual(found[word], arguments, word)


class TestSubset(unittest.TestCase):
    def test_the_folder_holds_files_of_the_program_only(self):
        for path in PACKAGE.iterdir():
            if path.name != "__pycache__":
                self.assertEqual((path.suffix, path.name.lower()), (".py", path.name))

    def test_sizes_and_signs(self):
        for name, text in sources():
            lines = text.split("\n")
            self.assertLessEqual(len(lines), 399, name)
            for line in lines:
                self.assertLessEqual(len(line), 120, (name, line))
                self.assertTrue(all(" " <= sign <= "~" for sign in line), (name, line))

    def test_no_warnings(self):
        for name, text in sources():
            with warnings.catch_warnings():
                warnings.simplefilter("error")
                compile(text, name, "exec")

    def test_only_plain_parts_of_the_language(self):
        for name, text in sources():
            for node in ast.walk(ast.parse(text)):
                self.assertIn(type(node).__name__, NODES, (name, getattr(node, "lineno", 0)))
                if isinstance(node, ast.FunctionDef):
                    self.assertLessEqual(node.end_lineno - node.lineno + 1, 40, node.name)
                    self.assertEqual(node.decorator_list, [], node.name)
                if isinstance(node, ast.ImportFrom):
                    self.assertTrue(node.module.startswith("fencewright."), (name, node.module))
                if isinstance(node, ast.Constant):
                    self.assertNotIn(type(node.value), (float, complex), name)

    def test_only_listed_builtins_and_none_renamed(self):
        import builtins
        for name, text in sources():
            for node in ast.walk(ast.parse(text)):
                if isinstance(node, ast.Name) and hasattr(builtins, node.id):
                    self.assertIn(node.id, BUILTINS, name)
                    self.assertIsInstance(node.ctx, ast.Load, (name, node.id))
                if isinstance(node, (ast.FunctionDef, ast.ClassDef)):
                    self.assertFalse(hasattr(builtins, node.name), (name, node.name))
                if isinstance(node, ast.arg):
                    self.assertFalse(hasattr(builtins, node.arg), (name, node.arg))


if __name__ == "__main__":
    unittest.main()

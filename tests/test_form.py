"""Point 1 asks for no clock, chance or files: the package reaches nothing outside itself."""

import ast
import builtins
import pathlib
import unittest

import postnet

FILES = sorted(pathlib.Path(postnet.__file__).parent.rglob("*.py"))
PYTHONS_OWN = set(
    "len range enumerate zip min max sum abs sorted reversed int str bool list tuple dict set frozenset"
    " isinstance ord repr any all divmod Exception ValueError TypeError KeyError IndexError LookupError"
    " ZeroDivisionError ArithmeticError OverflowError RuntimeError NotImplementedError".split()
)


def trees():
    for path in FILES:
        yield path.name, ast.parse(path.read_text(encoding="utf-8"))


class FormTest(unittest.TestCase):
    def test_modules_are_there(self):
        names = [path.name for path in FILES]
        for name in ("__init__", "errors", "posts", "bits", "building", "thinning", "layers", "notes"):
            self.assertIn(name + ".py", names)

    def test_imports_are_the_packages_own(self):
        for name, tree in trees():
            for node in ast.walk(tree):
                self.assertNotIsInstance(node, ast.Import, name)
                if isinstance(node, ast.ImportFrom):
                    self.assertEqual(node.level, 0, name)
                    self.assertTrue(node.module.startswith("postnet."), (name, node.module))

    def test_names_of_pythons_own_are_harmless(self):
        for name, tree in trees():
            used = {node.id for node in ast.walk(tree) if isinstance(node, ast.Name)}
            self.assertLessEqual(used & set(dir(builtins)), PYTHONS_OWN, name)

    def test_signs_and_sizes(self):
        for path in FILES:
            lines = path.read_text(encoding="utf-8").split("\n")
            self.assertLessEqual(len(lines), 401, path.name)
            for line in lines:
                self.assertLessEqual(len(line), 120, (path.name, line))
                self.assertTrue(all(" " <= sign <= "~" for sign in line), (path.name, line))


if __name__ == "__main__":
    unittest.main()

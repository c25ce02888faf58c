"""Checks of the form of the code that can be made without running it; they are not all that is asked for."""

import ast
import builtins
import os
import unittest

FOLDER = os.path.join(os.path.dirname(os.path.dirname(os.path.abspath(__file__))), 'pieceswindow')
MAY_CALL = set('''len range enumerate zip min max sum abs sorted reversed int str bool bytes list tuple dict set
    isinstance ord repr any all divmod pow iter ValueError TypeError KeyError IndexError LookupError NotImplemented
    property staticmethod classmethod super'''.split())


def sources():
    """Each file of the package: its name, its text and its tree."""
    for name in sorted(os.listdir(FOLDER)):
        if name != '__pycache__':
            with open(os.path.join(FOLDER, name), encoding='utf-8') as held:
                text = held.read()
            yield name, text, ast.parse(text)


class TestLanguage(unittest.TestCase):

    def test_only_plain_files(self):
        for name, text, _ in sources():
            self.assertRegex(name, '^[a-z_]+[.]py$')
            self.assertRegex(text, '^[ -~\n]*$', name)

    def test_sizes(self):
        for name, text, tree in sources():
            rows = text.split('\n')
            self.assertLessEqual(len(rows), 399, name)
            self.assertLessEqual(max(len(row) for row in rows), 120, name)
            for node in ast.walk(tree):
                if isinstance(node, ast.FunctionDef):
                    self.assertLessEqual(node.end_lineno - node.lineno + 1, 40, node.name)

    def test_imports(self):
        for name, _, tree in sources():
            files = {file[:-3] for file, _, _ in sources()}
            for node in ast.walk(tree):
                self.assertNotIsInstance(node, ast.Import, name)
                if isinstance(node, ast.ImportFrom):
                    package, _, module = node.module.partition('.')
                    self.assertEqual((package, node.level), ('pieceswindow', 0), name)
                    self.assertIn(module, files)

    def test_imported_names_are_used_and_not_bound_again(self):
        for name, _, tree in sources():
            imported = [each.name for node in tree.body if isinstance(node, ast.ImportFrom) for each in node.names]
            self.assertEqual(len(imported), len(set(imported)), name)
            used = {node.id for node in ast.walk(tree) if isinstance(node, ast.Name)}
            bound = {node.arg for node in ast.walk(tree) if isinstance(node, ast.arg)}
            bound |= {node.id for node in ast.walk(tree)
                      if isinstance(node, ast.Name) and isinstance(node.ctx, ast.Store)}
            self.assertEqual([each for each in imported if each not in used or each in bound], [], name)

    def test_builtins(self):
        for name, _, tree in sources():
            for node in ast.walk(tree):
                if isinstance(node, ast.Name) and hasattr(builtins, node.id) and node.id != '_':
                    self.assertIn(node.id, MAY_CALL, name)
                    self.assertIsInstance(node.ctx, ast.Load, name)
                if isinstance(node, ast.arg):
                    self.assertFalse(hasattr(builtins, node.arg), (name, node.arg))

    def test_no_statement_and_sign_that_is_left_out(self):
        for name, text, tree in sources():
            for node in ast.walk(tree):
                self.assertNotIsInstance(node, (ast.Global, ast.AsyncFunctionDef, ast.Div, ast.AugAssign), name)
                if isinstance(node, ast.Constant):
                    self.assertNotIsInstance(node.value, (float, complex), name)
                    if isinstance(node.value, str):
                        self.assertNotIn('%', node.value, name)
                if isinstance(node, ast.Call) and isinstance(node.func, ast.Name):
                    if node.func.id in ('any', 'all', 'min', 'max', 'sum', 'sorted'):
                        self.assertNotIsInstance(node.args[0], ast.GeneratorExp, name)
            for word in ('(type)', 'Meta', 'metaclass='):
                self.assertNotIn(word, text, name)

    def test_no_two_files_import_from_each_other(self):
        ahead = {name[:-3]: [node.module.partition('.')[2] for node in tree.body if isinstance(node, ast.ImportFrom)]
                 for name, _, tree in sources()}
        while ahead:
            free = [name for name in ahead if not any(module in ahead for module in ahead[name])]
            self.assertNotEqual(free, [], sorted(ahead))
            ahead = {name: modules for name, modules in ahead.items() if name not in free}

    def test_no_name_is_a_method_and_an_attribute(self):
        methods, attributes = set(), set()
        for _, _, tree in sources():
            for node in ast.walk(tree):
                if isinstance(node, ast.ClassDef):
                    methods |= {each.name for each in node.body if isinstance(each, ast.FunctionDef)}
                if isinstance(node, ast.Attribute) and isinstance(node.ctx, ast.Store):
                    attributes.add(node.attr)
        self.assertEqual(methods & attributes, set())
        for name in methods | attributes:
            if not name.startswith('__'):
                self.assertFalse(any(hasattr(one, name) for one in (int, str, bytes, list, tuple, dict, set)), name)

    def test_finally_only_assigns_names(self):
        for name, _, tree in sources():
            for node in ast.walk(tree):
                for each in getattr(node, 'finalbody', []):
                    self.assertIsInstance(each, ast.Assign, name)
                    self.assertIsInstance(each.value, ast.Name, name)


if __name__ == '__main__':
    unittest.main()

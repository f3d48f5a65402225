"""The package keeps to its small part of Python, as far as a reading of the code can tell."""

import ast
import builtins
import pathlib
import re
import unittest

FOLDER = pathlib.Path(__file__).resolve().parent.parent / "fiveflags"

ALLOWED_NODES = (
    ast.Module, ast.Expr, ast.Constant, ast.ImportFrom, ast.alias, ast.FunctionDef, ast.ClassDef, ast.arguments,
    ast.arg, ast.Assign, ast.Name, ast.Load, ast.Store, ast.Attribute, ast.Subscript, ast.Slice, ast.Tuple,
    ast.List, ast.Dict, ast.If, ast.IfExp, ast.While, ast.For, ast.Return, ast.Break, ast.Continue, ast.Pass,
    ast.Call, ast.BinOp, ast.UnaryOp, ast.BoolOp, ast.Compare, ast.operator, ast.unaryop, ast.boolop, ast.cmpop,
)
OUTSIDE_OPERATORS = (ast.Div, ast.MatMult, ast.Pow, ast.Is, ast.IsNot)
BUILT_IN = ("len range enumerate zip min max sum abs sorted reversed int str bool list tuple dict isinstance ord "
            "repr any all divmod").split()
METHODS = ("append clear copy count endswith extend find get index insert items join keys pop remove replace "
           "reverse setdefault update values bit_length").split()
WORDS = ("type typing typing_extensions enum Enum IntEnum StrEnum Flag IntFlag Generic Protocol ABC ABCMeta "
         "namedtuple NamedTuple TypedDict TYPE_CHECKING abstractmethod").split()
WITHIN_WORDS = ("dataclass", "overload", "contextmanager")
NOT_USED = ("register mro elements open input version_info with_traceback add_note attrgetter breakpoint builtins "
            "compile copyright credits delattr dir eval exec exit gc getattr globals hasattr help id importlib "
            "license locals methodcaller os quit setattr super vars sys").split()
PYTHONS_OWN = {name for kind in (str, int, list, dict, set, tuple, bytes) for name in dir(kind)}


def files():
    return sorted(path for path in FOLDER.rglob("*") if "__pycache__" not in path.parts)


def trees():
    return [(path, ast.parse(path.read_text(encoding="utf-8"))) for path in files()]


def all_nodes(kind):
    return [(path.name, node) for path, tree in trees() for node in ast.walk(tree) if isinstance(node, kind)]


def top_names(tree):
    """Each name that is bound at a file's top, as often as it is."""
    found = []
    for node in tree.body:
        if isinstance(node, (ast.FunctionDef, ast.ClassDef)):
            found.append(node.name)
        elif isinstance(node, ast.Assign):
            found.append(node.targets[0].id)
        elif isinstance(node, ast.ImportFrom):
            found.extend(alias.name for alias in node.names)
    return found


def own_top_names(tree):
    return [name for node in tree.body if not isinstance(node, ast.ImportFrom)
            for name in top_names(ast.Module([node], []))]


def classes():
    return [node for name, node in all_nodes(ast.ClassDef)]


def method_names():
    return [method.name for one in classes() for method in one.body if isinstance(method, ast.FunctionDef)]


def value_names():
    return {node.attr for name, node in all_nodes(ast.Attribute) if isinstance(node.ctx, ast.Store)}


class Files(unittest.TestCase):
    def test_plain_python_files_alone(self):
        for path in files():
            self.assertRegex(path.name, r"^(__init__|[a-z][a-z0-9_]*)\.py$")
            self.assertNotIn(path.stem, dir(builtins))
            self.assertNotRegex(path.stem, r"^(test.*|site|conftest|sitecustomize|usercustomize)$")

    def test_signs_and_sizes(self):
        for path in files():
            text = path.read_text(encoding="utf-8")
            self.assertRegex(text, r"\A[ -~\n]*\Z", path.name)
            lines = text.splitlines()
            self.assertLessEqual(len(lines), 400, path.name)
            self.assertLessEqual(max(len(line) for line in lines), 120, path.name)

    def test_functions_have_at_most_40_lines(self):
        for name, node in all_nodes(ast.FunctionDef):
            self.assertLessEqual(node.end_lineno - node.lineno + 1, 40, (name, node.name))

    def test_words_that_stand_nowhere(self):
        for path in files():
            text = path.read_text(encoding="utf-8")
            found = set(re.findall(r"\w+", text))
            self.assertEqual(found & set(WORDS), set(), path.name)
            for part in WITHIN_WORDS:
                self.assertNotIn(part, text, path.name)


class Forms(unittest.TestCase):
    def test_no_statement_or_expression_outside(self):
        for path, tree in trees():
            for node in ast.walk(tree):
                self.assertIsInstance(node, ALLOWED_NODES, (path.name, getattr(node, "lineno", 0)))
                self.assertNotIsInstance(node, OUTSIDE_OPERATORS, path.name)

    def test_assignments_have_one_plain_target(self):
        for name, node in all_nodes(ast.Assign):
            self.assertEqual(len(node.targets), 1, (name, node.lineno))
            self.assertNotIsInstance(node.targets[0], (ast.Tuple, ast.List), (name, node.lineno))

    def test_no_else_behind_a_loop(self):
        for name, node in all_nodes((ast.While, ast.For)):
            self.assertEqual(node.orelse, [], (name, node.lineno))

    def test_plain_parameters_without_annotations(self):
        for name, node in all_nodes(ast.FunctionDef):
            given = node.args
            self.assertEqual([given.vararg, given.kwarg, node.returns], [None, None, None], (name, node.name))
            self.assertEqual(given.posonlyargs + given.kwonlyargs + node.decorator_list, [], (name, node.name))
            self.assertEqual([arg.annotation for arg in given.args], [None] * len(given.args), (name, node.name))

    def test_constants_are_plain(self):
        for name, node in all_nodes(ast.Constant):
            self.assertIn(node.value.__class__, (int, str, bool, None.__class__), (name, node.lineno))
            if isinstance(node.value, str):
                self.assertNotIn("%", node.value, (name, node.lineno))

    def test_no_keyword_at_a_call(self):
        for name, node in all_nodes(ast.Call):
            self.assertEqual(node.keywords, [], (name, node.lineno))


class Names(unittest.TestCase):
    def test_top_names_are_bound_once(self):
        for path, tree in trees():
            names = top_names(tree)
            self.assertEqual(len(names), len(set(names)), path.name)

    def test_the_top_keeps_nothing_that_can_change(self):
        for path, tree in trees():
            for node in tree.body:
                if isinstance(node, ast.Assign):
                    self.assertNotIsInstance(node.value, (ast.List, ast.Dict, ast.Call), (path.name, node.lineno))

    def test_every_name_is_known(self):
        for path, tree in trees():
            known = set(top_names(tree)) | set(BUILT_IN)
            for function in [node for node in ast.walk(tree) if isinstance(node, ast.FunctionDef)]:
                local = {arg.arg for arg in function.args.args}
                inner = [node for node in ast.walk(function) if isinstance(node, ast.Name)]
                local |= {node.id for node in inner if isinstance(node.ctx, ast.Store)}
                for node in inner:
                    self.assertIn(node.id, known | local, (path.name, node.lineno))
                self.assertEqual(local & set(dir(builtins)), set(), (path.name, function.name))
                self.assertEqual(local & set(top_names(tree)), set(), (path.name, function.name))

    def test_plain_words(self):
        for path, tree in trees():
            names = [node.id for node in ast.walk(tree) if isinstance(node, ast.Name)]
            names += [node.attr for node in ast.walk(tree) if isinstance(node, ast.Attribute)]
            names += [node.name for node in ast.walk(tree) if isinstance(node, (ast.FunctionDef, ast.ClassDef))]
            names += [node.arg for node in ast.walk(tree) if isinstance(node, ast.arg)]
            for name in names:
                if name != "__init__":
                    self.assertRegex(name, r"^[A-Za-z][A-Za-z0-9_]*$", path.name)
                self.assertNotIn(name, NOT_USED, path.name)

    def test_methods_and_values(self):
        methods = [name for name in method_names() if name != "__init__"]
        self.assertEqual(set(methods) & PYTHONS_OWN, set())
        self.assertEqual(value_names() & PYTHONS_OWN, set())
        self.assertEqual(set(methods) & value_names(), set())

    def test_only_listed_methods_are_called(self):
        for name, node in all_nodes(ast.Call):
            if isinstance(node.func, ast.Attribute):
                self.assertIn(node.func.attr, METHODS + method_names(), (name, node.lineno))

    def test_methods_are_not_handed_on(self):
        called = [node.func for name, node in all_nodes(ast.Call)]
        called = {(one.lineno, one.col_offset, one.attr) for one in called if isinstance(one, ast.Attribute)}
        for name, node in all_nodes(ast.Attribute):
            if node.attr in method_names():
                self.assertIn((node.lineno, node.col_offset, node.attr), called, name)


class Imports(unittest.TestCase):
    def drawn(self):
        found = {}
        for path, tree in trees():
            found[path.stem] = []
            for node in tree.body:
                if isinstance(node, ast.ImportFrom):
                    found[path.stem].append(node)
        return found

    def test_imports_stand_at_the_top(self):
        count = sum(len(rows) for rows in self.drawn().values())
        self.assertEqual(count, len(all_nodes(ast.ImportFrom)))

    def test_from_the_very_file_that_defines_the_name(self):
        defined = {path.stem: own_top_names(tree) for path, tree in trees()}
        for name, rows in self.drawn().items():
            for row in rows:
                self.assertEqual(row.level, 0, name)
                self.assertRegex(row.module, r"^fiveflags\.[a-z_]+$")
                for alias in row.names:
                    self.assertIsNone(alias.asname)
                    self.assertIn(alias.name, defined[row.module.split(".")[1]], name)

    def test_every_imported_name_is_used(self):
        for path, tree in trees():
            used = {node.id for node in ast.walk(tree) if isinstance(node, ast.Name)}
            imported = {name for name in top_names(tree) if name not in own_top_names(tree)}
            self.assertEqual(imported - used, set(), path.name)

    def test_no_two_files_draw_from_one_another(self):
        draws = {name: {row.module.split(".")[1] for row in rows} for name, rows in self.drawn().items()}
        while draws:
            free = [name for name, others in draws.items() if not others & set(draws)]
            self.assertNotEqual(free, [], draws)
            draws = {name: others for name, others in draws.items() if name not in free}


if __name__ == "__main__":
    unittest.main()

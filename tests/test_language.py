"""The package's files, as far as a test can see it, keep to the part of Python that the program is written in."""

import ast
import builtins
import pathlib
import re
import unittest

ROOT = pathlib.Path(__file__).resolve().parent.parent
PACKAGE = ROOT / "raypaths"
FILES = sorted(PACKAGE.rglob("*.py"))
STATEMENTS = (
    ast.Assign, ast.AugAssign, ast.If, ast.While, ast.For, ast.Return, ast.Break, ast.Continue, ast.Pass, ast.Raise,
    ast.Try, ast.Expr, ast.FunctionDef, ast.ClassDef, ast.ImportFrom,
)
EXPRESSIONS = (
    ast.Constant, ast.List, ast.Tuple, ast.Dict, ast.Set, ast.BinOp, ast.UnaryOp, ast.BoolOp, ast.Compare, ast.IfExp,
    ast.Call, ast.Attribute, ast.Subscript, ast.Slice, ast.ListComp, ast.JoinedStr, ast.FormattedValue, ast.Name,
    ast.Lambda,
)
OWN_NAMES = set(
    "len range enumerate zip min max sum abs sorted reversed int str bool list tuple dict set frozenset isinstance ord "
    "repr any all divmod Exception ValueError TypeError KeyError IndexError LookupError ZeroDivisionError "
    "ArithmeticError OverflowError RuntimeError NotImplementedError AttributeError StopIteration".split())
METHODS = set(
    "append clear copy count endswith extend find get index insert isalnum isalpha isdigit islower isspace isupper items "
    "join keys ljust lower lstrip partition pop remove replace reverse rfind rjust rpartition rsplit rstrip setdefault "
    "split splitlines startswith strip update upper values zfill bit_length".split())
NEVER = set(
    "register mro elements open input version_info with_traceback add_note attrgetter breakpoint builtins compile "
    "copyright credits delattr dir eval exec exit gc getattr globals hasattr help id importlib license locals "
    "methodcaller os quit setattr super type vars sys chr print format format_map f_back tb_next co_names".split())
WORDS_NOWHERE = re.compile(
    r"\b(type|typing|typing_extensions|enum|Enum|IntEnum|StrEnum|Flag|IntFlag|Generic|Protocol|ABC|ABCMeta|namedtuple|"
    r"NamedTuple|TypedDict|TYPE_CHECKING|abstractmethod)\b|dataclass|overload|contextmanager")
VALUES_OF_PYTHON = {name for kind in (str, int, list, tuple, dict, set, bytes, float) for name in dir(kind)}
VALUES_ALLOWED = set("count index title find get join lower upper split strip copy add".split())
WALKED = ("zip", "enumerate", "reversed", "range")
CHANGES = ("append", "clear", "extend", "insert", "pop", "remove", "reverse", "setdefault", "update")


def nodes(*kinds):
    for file in FILES:
        for node in ast.walk(ast.parse(file.read_text("utf-8"))):
            if isinstance(node, kinds):
                yield file.name, node


def where(file, node):
    return f"{file}:{getattr(node, 'lineno', 0)} {ast.dump(node)[:80]}"


def is_docstring(node):
    return isinstance(node.value, ast.Constant) and isinstance(node.value.value, str)


class Files(unittest.TestCase):
    def test_only_plain_files_lie_in_the_package(self):
        names = [path.name for path in PACKAGE.rglob("*") if "__pycache__" not in path.parts]
        self.assertIn("__init__.py", names)
        for name in names:
            self.assertRegex(name, r"^([a-z][a-z0-9_]*|__init__)\.py$")
            self.assertNotIn(name[:-3], dir(builtins))
            self.assertNotRegex(name, r"^(tests?|testing|test_.*|site|conftest|sitecustomize|usercustomize)\.py$")

    def test_signs_and_rows(self):
        for file in FILES:
            text = file.read_bytes().decode("ascii")
            self.assertRegex(text, r"\A[ -~\n]*\Z", file.name)
            rows = text.split("\n")
            self.assertLessEqual(len(rows), 400, file.name)
            self.assertLessEqual(max(map(len, rows)), 120, file.name)
            self.assertIsNone(WORDS_NOWHERE.search(text), file.name)

    def test_functions_have_at_most_40_lines(self):
        for file, node in nodes(ast.FunctionDef, ast.Lambda):
            self.assertLessEqual(node.end_lineno - node.lineno + 1, 40, where(file, node))

    def test_imports(self):
        drawn = {}
        for file, node in nodes(ast.Import, ast.ImportFrom):
            self.assertIsInstance(node, ast.ImportFrom, where(file, node))
            self.assertEqual(node.level, 0)
            self.assertRegex(node.module, r"^raypaths\.[a-z]+$")
            drawn.setdefault(file, set()).add(node.module.split(".")[1] + ".py")
            top = ast.parse((PACKAGE / (node.module.split(".")[1] + ".py")).read_text("utf-8"))
            defined = {n.name for n in top.body if isinstance(n, (ast.FunctionDef, ast.ClassDef))}
            defined |= {n.targets[0].id for n in top.body if isinstance(n, ast.Assign)}
            for name in node.names:
                self.assertIn(name.name, defined, where(file, node))
                self.assertIsNone(name.asname)
        while drawn:
            free = [file for file in drawn if not drawn[file] & set(drawn)]
            self.assertTrue(free, f"files draw from one another: {drawn}")
            for file in free:
                del drawn[file]


class Forms(unittest.TestCase):
    def test_the_top_of_a_file(self):
        for file in FILES:
            bound = []
            for place, node in enumerate(ast.parse(file.read_text("utf-8")).body):
                if isinstance(node, ast.Expr):
                    self.assertTrue(place == 0 and is_docstring(node), where(file.name, node))
                elif isinstance(node, ast.Assign):
                    ast.literal_eval(node.value)
                    bound.append(node.targets[0].id)
                elif isinstance(node, (ast.FunctionDef, ast.ClassDef)):
                    bound.append(node.name)
                else:
                    self.assertIsInstance(node, ast.ImportFrom, where(file.name, node))
                    bound.extend(name.name for name in node.names)
            self.assertEqual(len(bound), len(set(bound)), file.name)

    def test_statements(self):
        for file, node in nodes(ast.stmt):
            self.assertIsInstance(node, STATEMENTS, where(file, node))
            if isinstance(node, ast.Expr):
                self.assertTrue(isinstance(node.value, ast.Call) or is_docstring(node), where(file, node))
            if isinstance(node, ast.Assign):
                self.assertEqual(len(node.targets), 1, where(file, node))
            if isinstance(node, (ast.While, ast.For)):
                self.assertEqual(node.orelse, [], where(file, node))
            if isinstance(node, ast.Try):
                self.assertEqual(node.finalbody, [], where(file, node))

    def test_expressions(self):
        for file, node in nodes(ast.expr):
            self.assertIsInstance(node, EXPRESSIONS, where(file, node))
            if isinstance(node, ast.Constant):
                self.assertNotIsInstance(node.value, (float, complex, bytes), where(file, node))
            if isinstance(node, ast.Constant) and isinstance(node.value, str):
                self.assertNotIn("%", node.value, where(file, node))
            if isinstance(node, ast.BinOp):
                self.assertNotIsInstance(node.op, (ast.Div, ast.MatMult, ast.Pow), where(file, node))
            if isinstance(node, ast.ListComp):
                self.assertEqual(len(node.generators), 1, where(file, node))
                self.assertLessEqual(len(node.generators[0].ifs), 1, where(file, node))
            if isinstance(node, ast.Compare) and any(isinstance(op, (ast.Is, ast.IsNot)) for op in node.ops):
                self.assertIsInstance(node.comparators[0], ast.Constant, where(file, node))

    def test_functions_and_classes(self):
        for file, node in nodes(ast.FunctionDef):
            self.assertEqual(node.decorator_list, [], where(file, node))
            self.assertIsNone(node.returns, where(file, node))
            plain = (node.args.vararg, node.args.kwarg, node.args.kwonlyargs, node.args.posonlyargs)
            self.assertEqual(plain, (None, None, [], []), where(file, node))
            self.assertTrue(all(arg.annotation is None for arg in node.args.args), where(file, node))
        for file, node in nodes(ast.ClassDef):
            self.assertEqual((node.decorator_list, node.keywords), ([], []), where(file, node))
            self.assertLessEqual(len(node.bases), 1, where(file, node))
            for inner in node.body:
                self.assertIsInstance(inner, (ast.FunctionDef, ast.Pass), where(file, inner))

    def test_handlers_take_the_programs_own_errors(self):
        own = {node.name for _, node in nodes(ast.ClassDef)}
        for file, node in nodes(ast.ExceptHandler):
            taken = node.type.elts if isinstance(node.type, ast.Tuple) else [node.type]
            self.assertTrue(all(name.id in own for name in taken), where(file, node))
        for file, node in nodes(ast.Raise):
            self.assertIsInstance(node.exc, ast.Call, where(file, node))
            self.assertIn(node.exc.func.id, own, where(file, node))

    def test_walks_stand_on_the_spot(self):
        walks = 0
        for file, node in nodes(ast.For, ast.comprehension):
            if isinstance(node.iter, ast.Call) and getattr(node.iter.func, "id", None) in WALKED:
                walks += 1
        calls = [node for _, node in nodes(ast.Call) if getattr(node.func, "id", None) in WALKED]
        self.assertEqual(len(calls), walks)


    def test_what_a_loop_walks_is_not_changed_in_it(self):
        for file, loop in nodes(ast.For):
            walked = {ast.dump(node) for node in ast.walk(loop.iter) if isinstance(node, (ast.Name, ast.Attribute))}
            for node in [node for row in loop.body for node in ast.walk(row)]:
                if isinstance(node, ast.Call) and getattr(node.func, "attr", None) in CHANGES:
                    self.assertNotIn(ast.dump(node.func.value), walked, where(file, node))
                if isinstance(node, ast.Subscript) and isinstance(node.ctx, ast.Store):
                    self.assertNotIn(ast.dump(node.value).replace("Store", "Load"), walked, where(file, node))

    def test_no_parameter_is_changed(self):
        """Lists and dicts that are handed in; objects of the package's own are changed by their values."""
        changed = {"names"}  # read_part notes each name in the dict that read_system made for it.
        for file, function in nodes(ast.FunctionDef):
            handed = {arg.arg for arg in function.args.args} - changed
            for node in ast.walk(function):
                if isinstance(node, ast.Call) and getattr(node.func, "attr", None) in CHANGES:
                    self.assertNotIn(getattr(node.func.value, "id", None), handed, where(file, node))
                if isinstance(node, ast.Subscript) and isinstance(node.ctx, ast.Store):
                    self.assertNotIn(getattr(node.value, "id", None), handed, where(file, node))

    def test_one_plain_target_in_an_assignment(self):
        for file, node in nodes(ast.Assign):
            self.assertIsInstance(node.targets[0], (ast.Name, ast.Attribute, ast.Subscript), where(file, node))

    def test_classes_are_called_raised_taken_or_bases(self):
        own = {node.name for _, node in nodes(ast.ClassDef)}
        seen = fit = 0
        for _, node in nodes(ast.Name, ast.Call, ast.ExceptHandler, ast.ClassDef):
            if isinstance(node, ast.Name):
                seen += node.id in own
            elif isinstance(node, ast.Call):
                fit += getattr(node.func, "id", None) in own
            else:
                taken = node.bases if isinstance(node, ast.ClassDef) else [node.type]
                fit += sum(name.id in own for one in taken for name in getattr(one, "elts", [one]))
        self.assertEqual(seen, fit)

    def test_a_top_holds_no_list_within_a_list(self):
        for file in FILES:
            for node in ast.parse(file.read_text("utf-8")).body:
                if isinstance(node, ast.Assign) and isinstance(node.value, (ast.List, ast.Dict)):
                    within = [inner for inner in ast.walk(node.value) if isinstance(inner, (ast.List, ast.Dict))]
                    self.assertEqual(within, [node.value], where(file.name, node))

    def test_no_keyword_at_a_call(self):
        for file, node in nodes(ast.Call):
            self.assertEqual(node.keywords, [], where(file, node))


class Names(unittest.TestCase):
    def bound(self):
        for file, node in nodes(ast.Name, ast.arg, ast.FunctionDef, ast.ClassDef):
            if isinstance(node, ast.Name) and not isinstance(node.ctx, ast.Store):
                continue
            yield file, node, getattr(node, "id", None) or getattr(node, "arg", None) or node.name

    def test_names_are_plain(self):
        for file, node, name in self.bound():
            if name != "__init__":
                self.assertRegex(name, r"^[A-Za-z][A-Za-z0-9_]*$", where(file, node))
                self.assertNotIn(name, dir(builtins), where(file, node))
                self.assertNotIn(name, NEVER, where(file, node))

    def test_no_local_is_called_like_an_import_or_a_class(self):
        for file in FILES:
            tree = ast.parse(file.read_text("utf-8"))
            top = {name.name for node in tree.body if isinstance(node, ast.ImportFrom) for name in node.names}
            top |= {node.name for node in tree.body if isinstance(node, (ast.ClassDef, ast.FunctionDef))}
            for function in [node for node in ast.walk(tree) if isinstance(node, ast.FunctionDef)]:
                local = {arg.arg for arg in function.args.args}
                local |= {node.id for node in ast.walk(function)
                          if isinstance(node, ast.Name) and isinstance(node.ctx, ast.Store)}
                self.assertFalse(local & top, f"{file.name} {function.name} {local & top}")

    def test_python_s_own_names(self):
        for file, node in nodes(ast.Name):
            if node.id in dir(builtins):
                self.assertIn(node.id, OWN_NAMES, where(file, node))
            self.assertNotIn(node.id, NEVER, where(file, node))

    def test_methods_and_values(self):
        own = {inner.name for _, node in nodes(ast.ClassDef) for inner in node.body if isinstance(inner, ast.FunctionDef)}
        values = {node.attr for _, node in nodes(ast.Attribute) if isinstance(node.ctx, ast.Store)}
        self.assertFalse(own & values)
        self.assertFalse((own - {"__init__"}) & VALUES_OF_PYTHON - METHODS - {"add", "discard"})
        self.assertFalse(values & VALUES_OF_PYTHON - VALUES_ALLOWED)
        for file, node in nodes(ast.Attribute):
            self.assertIn(node.attr, METHODS | own | values, where(file, node))
            self.assertNotIn(node.attr, NEVER, where(file, node))

    def test_lists_and_dicts_of_a_top_are_only_read(self):
        for file in FILES:
            tree = ast.parse(file.read_text("utf-8"))
            kept = {node.targets[0].id for node in tree.body
                    if isinstance(node, ast.Assign) and isinstance(node.value, (ast.List, ast.Dict))}
            for node in ast.walk(tree):
                if isinstance(node, ast.Call):
                    handed = [arg.id for arg in node.args if isinstance(arg, ast.Name)]
                    self.assertFalse(kept & set(handed), where(file.name, node))
                if isinstance(node, ast.Subscript) and isinstance(node.value, ast.Name) and node.value.id in kept:
                    self.assertIsInstance(node.ctx, ast.Load, where(file.name, node))


class Interface(unittest.TestCase):
    def test_path_takes_what_the_document_names(self):
        import inspect
        from raypaths.rays import path
        self.assertEqual(list(inspect.signature(path).parameters), ["line", "p", "t", "x", "y", "u", "v", "z"])

    def test_fan_takes_what_the_document_names(self):
        import inspect
        from raypaths.rays import fan
        self.assertEqual(list(inspect.signature(fan).parameters), ["line", "p", "t", "f", "z", "x", "y"])


if __name__ == "__main__":
    unittest.main()

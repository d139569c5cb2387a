"""What of ../shared/LANGUAGE.md can be checked in a few lines, and where the interface is defined."""

import ast
import builtins
import os
import re
import unittest
import warnings

FOLDER = os.path.join(os.path.dirname(os.path.dirname(os.path.abspath(__file__))), "piecetold")

INTERFACE = {
    "programs.py": {"Program": ["self", "names", "channels", "states", "rules"], "position_of": ["integer", "kept"],
                    "start": ["program"], "step": ["program", "configuration", "message"]},
    "chains.py": {"Chain": ["self", "programs", "links"], "names_of": ["chain"], "chain_start": ["chain"],
                  "chain_step": ["chain", "beginning", "message"], "deed_from": ["chain", "beginning", "messages"],
                  "after_deed": ["deed"], "written": ["deed", "program", "channel"]},
    "classes.py": {"class_of": ["chain", "beginning", "messages"], "is_class": ["chain", "value"],
                   "is_deed": ["chain", "some_class", "value"], "deed_of": ["chain", "some_class"],
                   "served": ["chain", "beginning", "messages", "deed"], "all_classes": ["chain", "messages"]},
    "desks.py": {"Desk": ["self", "chain", "liars"]},
    "documents.py": {"Document": ["self", "desk"]},
    "readers.py": {"splice": ["first", "second"], "spliced": ["messages", "change"], "Reader": ["self", "document"]},
}

METHODS_OF = {
    "desks.py": {"Desk": {"tell": ["worker", "some_class", "deed"], "kept": ["some_class"], "classes": [],
                          "open_count": [], "named": [], "guess": ["some_class"], "guesses": []}},
    "documents.py": {"Document": {"put": ["place", "messages"], "drop": ["piece"], "change": ["piece", "messages"],
                                  "move": ["piece", "place"], "cut": ["piece", "place"], "glue": ["piece"], "undo": [],
                                  "redo": [], "pieces": [], "known": [], "front": [], "wanted": [],
                                  "output": ["program", "channel"], "origin": ["program", "channel", "index"],
                                  "next_class": ["worker"]}},
    "readers.py": {"Reader": {"changes": []}},
}

ERRORS = """PieceError InvalidProgram InvalidChain InvalidBeginning InvalidInput InvalidClass InvalidDeed NoSuchPiece
NoSuchPlace TooMuch NothingToUndo NothingToRedo InvalidWorker ToldOther InvalidDesk NoSuchChannel""".split()

STATEMENTS = (
    ast.Assign, ast.AugAssign, ast.If, ast.While, ast.For, ast.Return, ast.Break, ast.Continue, ast.Pass, ast.Raise,
    ast.Assert, ast.Delete, ast.Try, ast.Expr, ast.FunctionDef, ast.ClassDef, ast.ImportFrom,
)

EXPRESSIONS = (
    ast.BoolOp, ast.BinOp, ast.UnaryOp, ast.IfExp, ast.Dict, ast.ListComp, ast.DictComp, ast.Compare, ast.Call,
    ast.Constant, ast.Attribute, ast.Subscript, ast.Name, ast.List, ast.Tuple, ast.Slice, ast.Lambda, ast.SetComp,
    ast.JoinedStr, ast.FormattedValue,
)

BUILTINS = """len range enumerate zip min max sum abs sorted reversed int str bool list tuple dict set isinstance ord
repr any all divmod Exception ValueError TypeError KeyError IndexError LookupError""".split()

METHODS = """append clear copy count endswith extend find get index insert isalnum isalpha isdigit islower isspace
isupper items join keys ljust lower lstrip partition pop remove replace reverse rfind rjust rpartition rsplit rstrip
setdefault split splitlines startswith strip update upper values zfill bit_length add discard sort""".split()


def texts():
    found = {}
    for name in sorted(os.listdir(FOLDER)):
        if name != "__pycache__":
            with open(os.path.join(FOLDER, name), encoding="utf-8", newline="") as file:
                found[name] = file.read()
    return found


def trees():
    return {name: ast.parse(text) for name, text in texts().items()}


def bound_in(function):
    """The names of the parameters and local variables of a function."""
    return [node.arg for node in ast.walk(function) if isinstance(node, ast.arg)] + [
        node.id for node in ast.walk(function) if isinstance(node, ast.Name) and isinstance(node.ctx, ast.Store)
    ]


def functions_of(tree):
    return [node for node in ast.walk(tree) if isinstance(node, ast.FunctionDef)]


def defined_in(tree):
    """The names that a module binds, imports left out."""
    names = []
    for node in tree.body:
        if isinstance(node, (ast.FunctionDef, ast.ClassDef)):
            names.append(node.name)
        elif isinstance(node, ast.Assign):
            names = names + [target.id for target in node.targets]
    return names


def classes_of(tree):
    return [node for node in tree.body if isinstance(node, ast.ClassDef)]


def methods_in(node):
    """The names of the methods that a class defines."""
    return [part.name for part in node.body if isinstance(part, ast.FunctionDef)]


def attributes_in(node):
    """The names of the attributes that the methods of a class assign to their own object."""
    return [part.attr for part in ast.walk(node) if isinstance(part, ast.Attribute) and isinstance(part.ctx, ast.Store)]


def imported_in(tree):
    return [alias.name for node in tree.body if isinstance(node, ast.ImportFrom) for alias in node.names]


class LanguageTest(unittest.TestCase):
    def test_files_and_characters(self):
        self.assertIn("__init__.py", texts())
        for name, text in texts().items():
            self.assertTrue(re.fullmatch(r"[a-z][a-z0-9_]*\.py|__init__\.py", name), name)
            self.assertTrue(re.fullmatch(r"[ -~\n]*", text), name)
            self.assertLessEqual(text.count("\n"), 399, name)
            self.assertLessEqual(max(len(line) for line in text.split("\n")), 120, name)
            for function in functions_of(ast.parse(text)):
                self.assertLessEqual(function.end_lineno - function.lineno + 1, 40, function.name)

    def test_no_line_gives_a_warning(self):
        with warnings.catch_warnings():
            warnings.simplefilter("error")
            for name, text in texts().items():
                compile(text, name, "exec")

    def test_statements_and_expressions(self):
        for name, tree in trees().items():
            for node in ast.walk(tree):
                if isinstance(node, ast.stmt):
                    self.assertIsInstance(node, STATEMENTS, (name, node.lineno))
                if isinstance(node, ast.expr):
                    self.assertIsInstance(node, EXPRESSIONS, (name, node.lineno))
                if isinstance(node, ast.Constant):
                    self.assertIn(type(node.value), (int, str, bool, type(None)), (name, node.lineno))
                if isinstance(node, (ast.FunctionDef, ast.ClassDef)):
                    self.assertEqual(node.decorator_list, [], node.name)
                self.assertNotIsInstance(node, (ast.Div, ast.Pow, ast.MatMult))

    def test_names(self):
        for name, tree in trees().items():
            classes = [node.name for node in tree.body if isinstance(node, ast.ClassDef)]
            top = defined_in(tree) + imported_in(tree)
            self.assertEqual(len(top), len(set(top)), name)
            for function in functions_of(tree):
                for word in bound_in(function):
                    self.assertTrue(re.fullmatch(r"_|_?[A-Za-z][A-Za-z0-9_]*", word), (name, word))
                    self.assertNotIn(word, classes + imported_in(tree), (name, function.name))
                    self.assertFalse(hasattr(builtins, word), (name, word))
            for word in top:
                self.assertFalse(hasattr(builtins, word), (name, word))

    def test_attributes_and_methods(self):
        nodes = [node for tree in trees().values() for node in classes_of(tree)]
        methods = [name for node in nodes for name in methods_in(node) if name != "__init__"]
        attributes = [name for node in nodes for name in attributes_in(node)]
        for node in nodes:
            self.assertEqual(len(methods_in(node)), len(set(methods_in(node))), node.name)
        for name in methods + attributes:
            self.assertTrue(re.fullmatch(r"[a-z][a-z0-9_]*", name), name)
            self.assertFalse(any(hasattr(value, name) for value in (1, "", b"", [], {}, set(), ())), name)
        self.assertEqual(set(methods) & set(attributes), set())
        for tree in trees().values():
            for node in ast.walk(tree):
                if isinstance(node, ast.Attribute):
                    self.assertIn(node.attr, methods + attributes + METHODS + ["__init__"])
                if isinstance(node, ast.Attribute) and isinstance(node.ctx, ast.Store):
                    self.assertIsInstance(node.value, ast.Name)

    def test_words_that_do_not_occur(self):
        words = """type typing enum Enum Flag Generic Protocol ABC namedtuple register mro elements law open input
        global nonlocal async await""".split()
        for name, tree in trees().items():
            for node in ast.walk(tree):
                if isinstance(node, ast.Constant) and isinstance(node.value, str):
                    self.assertNotIn("%", node.value)
                for word in [getattr(node, "id", ""), getattr(node, "attr", ""), getattr(node, "arg", "")]:
                    self.assertNotIn(word, words, name)

    def test_only_builtins_and_methods_that_are_allowed(self):
        own = [name for tree in trees().values() for node in classes_of(tree) for name in methods_in(node)]
        for name, tree in trees().items():
            known = defined_in(tree) + imported_in(tree) + BUILTINS
            local = [word for function in functions_of(tree) for word in bound_in(function)]
            for node in ast.walk(tree):
                if isinstance(node, ast.Name) and isinstance(node.ctx, ast.Load):
                    self.assertIn(node.id, known + local, (name, node.lineno))
                if isinstance(node, ast.Call) and isinstance(node.func, ast.Attribute):
                    self.assertIn(node.func.attr, METHODS + own, (name, node.lineno))

    def test_imports_name_the_file_that_defines_the_name_and_form_no_circle(self):
        reached = {name: set() for name in trees()}
        for name, tree in trees().items():
            for node in ast.walk(tree):
                self.assertNotIsInstance(node, ast.Import, name)
                if isinstance(node, ast.ImportFrom):
                    self.assertEqual((node.level, node.module.split(".")[0], node.module.count(".")),
                                     (0, "piecetold", 1))
                    file = node.module.split(".")[1] + ".py"
                    reached[name].add(file)
                    for alias in node.names:
                        self.assertIsNone(alias.asname)
                        self.assertIn(alias.name, defined_in(trees()[file]))
        for _ in reached:
            reached = {name: files.union(*[reached[file] for file in files]) for name, files in reached.items()}
        for name, files in reached.items():
            self.assertNotIn(name, files)

    def test_sets_stand_only_where_they_are_measured(self):
        for name, tree in trees().items():
            calls = [node for node in ast.walk(tree) if isinstance(node, ast.Call) and isinstance(node.func, ast.Name)]
            within = [argument for call in calls if call.func.id in ("len", "sorted") for argument in call.args]
            for call in calls:
                if call.func.id == "set":
                    self.assertIn(call, within, (name, call.lineno))


class InterfaceTest(unittest.TestCase):
    def test_each_name_is_defined_in_its_file_with_its_arguments(self):
        for file, names in INTERFACE.items():
            found = {node.name: node for node in trees()[file].body if hasattr(node, "name")}
            for name, arguments in names.items():
                node = found[name]
                if isinstance(node, ast.ClassDef):
                    node = [part for part in node.body if getattr(part, "name", "") == "__init__"][0]
                self.assertEqual([argument.arg for argument in node.args.args], arguments, name)
                self.assertEqual((node.args.vararg, node.args.kwonlyargs, node.args.kwarg), (None, [], None))

    def test_each_method_is_defined_in_its_class(self):
        for file, names in METHODS_OF.items():
            for name, methods in names.items():
                node = [part for part in classes_of(trees()[file]) if part.name == name][0]
                found = {part.name: part for part in node.body if isinstance(part, ast.FunctionDef)}
                for method, arguments in methods.items():
                    self.assertEqual([argument.arg for argument in found[method].args.args], ["self"] + arguments, method)
                    self.assertEqual(found[method].args.defaults, [], method)

    def test_each_error_is_defined_in_its_file(self):
        self.assertEqual([node.name for node in classes_of(trees()["errors.py"])], ERRORS)


if __name__ == "__main__":
    unittest.main()

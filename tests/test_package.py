"""What holds for the package as a whole: point [1] and the opening of "The interface"."""

import ast
import doctest
import importlib
import inspect
import pathlib
import unittest

ROOT = pathlib.Path(__file__).resolve().parent.parent
PACKAGE = ROOT / "blameless"

# The module, the name and the names of the arguments.
FUNCTIONS = (
    ("blameless.words", "combine", ["sign", "left", "right"]),
    ("blameless.words", "split_words", ["text"]),
    ("blameless.words", "number_of", ["word"]),
    ("blameless.interface", "interface_text", ["interface"]),
    ("blameless.interface", "read_interface", ["text"]),
    ("blameless.language", "read_component", ["text", "imports"]),
    ("blameless.writer", "component_text", ["component"]),
    ("blameless.writer", "block_words", ["block"]),
    ("blameless.traces", "maker", ["interface", "trace"]),
    ("blameless.traces", "possible", ["interface", "trace"]),
    ("blameless.traces", "made_by", ["trace", "component"]),
    ("blameless.traces", "trace_lines", ["trace"]),
    ("blameless.traces", "read_trace", ["interface", "lines"]),
    ("blameless.compiler", "compile_component", ["component", "exported", "checked"]),
    ("blameless.explain", "explanation", ["interface", "component", "trace"]),
    ("blameless.blame", "blame", ["interface", "parts", "steps", "checked"]),
    ("blameless.safety", "bound", ["expression"]),
    ("blameless.safety", "surely_defined", ["component"]),
    ("blameless.safety", "fold_component", ["component"]),
    ("blameless.policy", "state_after", ["policy", "trace"]),
    ("blameless.policy", "broken_at", ["policy", "trace"]),
)

# The module, the name, the names of the constructor's arguments and the methods with theirs.
CLASSES = (
    ("blameless.errors", "BadText", ["at"], {}),
    ("blameless.errors", "BadInterface", ["at"], {}),
    ("blameless.errors", "BadTrace", ["at"], {}),
    ("blameless.errors", "TooLarge", ["what"], {}),
    ("blameless.interface", "Interface", ["rows"], {"size": [], "__eq__": ["other"]}),
    ("blameless.language", "Component", ["room", "buffers", "procedures"], {"__eq__": ["other"]}),
    ("blameless.process", "Process", ["interface", "components"], {"step": [], "go": ["steps", "events"]}),
    ("blameless.machine", "Code", ["memory", "entries"], {"__eq__": ["other"]}),
    ("blameless.machine", "Machine", ["interface", "codes"], {"step": [], "go": ["steps", "events"]}),
    ("blameless.blame", "Verdict", ["trace", "blamed", "components", "made"], {}),
    ("blameless.policy", "Policy", ["rules"], {"after": ["state", "event"]}),
)

# Names with which a program would reach a file, the network or a state of the machine.
OUTSIDE = ("open", "input", "print", "exec", "eval", "compile", "__import__", "globals", "id", "hash")


def trees():
    return [(path.name, ast.parse(path.read_text(encoding="ascii"))) for path in sorted(PACKAGE.rglob("*.py"))]


def function_length(node):
    return node.end_lineno - node.lineno + 1


class NamesTest(unittest.TestCase):
    def test_functions_are_defined_where_they_are_listed(self):
        for module, name, parameters in FUNCTIONS:
            with self.subTest(name=name):
                function = getattr(importlib.import_module(module), name)
                self.assertTrue(inspect.isfunction(function))
                self.assertEqual(function.__module__, module)
                self.assertEqual(list(inspect.signature(function).parameters), parameters)

    def test_classes_and_their_methods_are_defined_where_they_are_listed(self):
        for module, name, parameters, methods in CLASSES:
            made = getattr(importlib.import_module(module), name)
            with self.subTest(name=name):
                self.assertTrue(inspect.isclass(made))
                self.assertEqual(made.__module__, module)
                self.assertEqual(list(inspect.signature(made).parameters), parameters)
                for method, others in methods.items():
                    self.assertIn(method, vars(made))
                    self.assertEqual(list(inspect.signature(vars(made)[method]).parameters), ["self"] + others)

    def test_the_base_class_of_the_errors(self):
        module = importlib.import_module("blameless.errors")
        self.assertEqual(module.BlameError.__module__, "blameless.errors")


class OutsideTest(unittest.TestCase):
    def test_imports_are_from_the_package_alone(self):
        for name, tree in trees():
            for node in ast.walk(tree):
                with self.subTest(file=name):
                    self.assertNotIsInstance(node, ast.Import)
                    if isinstance(node, ast.ImportFrom):
                        self.assertEqual((node.level, node.module.split(".")[0]), (0, "blameless"))

    def test_nothing_outside_is_reached(self):
        for name, tree in trees():
            used = [node.id for node in ast.walk(tree) if isinstance(node, ast.Name)]
            for word in OUTSIDE:
                with self.subTest(file=name, word=word):
                    self.assertNotIn(word, used)


class FilesTest(unittest.TestCase):
    def test_the_package_holds_python_files_alone(self):
        paths = [path for path in PACKAGE.rglob("*") if "__pycache__" not in path.parts]
        self.assertEqual([path.name for path in paths if path.suffix != ".py"], [])
        self.assertIn(PACKAGE / "__init__.py", paths)

    def test_characters_and_sizes(self):
        for path in sorted(PACKAGE.rglob("*.py")):
            text = path.read_bytes().decode("ascii")
            with self.subTest(file=path.name):
                strange = [letter for letter in text if letter != "\n" and not " " <= letter <= "~"]
                self.assertEqual(strange, [])
                self.assertLessEqual(max([len(line) for line in text.split("\n")]), 120)
                self.assertLessEqual(text.count("\n"), 399)

    def test_functions_are_small(self):
        for name, tree in trees():
            for node in ast.walk(tree):
                if isinstance(node, ast.FunctionDef):
                    with self.subTest(file=name, function=node.name):
                        self.assertLessEqual(function_length(node), 40)


class ReadmeTest(unittest.TestCase):
    def test_the_examples_of_the_readme(self):
        failed, tried = doctest.testfile(str(ROOT / "README.md"), module_relative=False, encoding="ascii")
        self.assertEqual(failed, 0)
        self.assertGreater(tried, 0)


if __name__ == "__main__":
    unittest.main()

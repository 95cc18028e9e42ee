"""The interface as it is written, and those rules of the code that a test can look at."""

import ast
import importlib
import inspect
import pathlib
import unittest

from bikestands import console, desks, errors, logs, surveys, towns

FOLDER = pathlib.Path(towns.__file__).parent
FILES = sorted(FOLDER.glob("*.py"))
# For each file of the interface that has functions: their names and parameters.
FUNCTIONS = {
    "records": {
        "is_record": ("town", "value"), "contents": ("town", "record"), "value": ("town", "record", "ask"),
        "holds": ("town", "record", "fact"), "fits": ("log", "record"),
    },
    "ranges": {
        "possible": ("log",), "some_record": ("log",), "ask_range": ("log", "ask"),
        "end_record": ("log", "ask", "word"), "surely": ("log", "ask"), "fewest_vans": ("log",),
        "surely_full": ("log",), "surely_empty": ("log",), "surely_moved": ("log",), "profile": ("log", "name"),
    },
    "wrongs": {"wrongs": ("log",), "adds": ("log", "index"), "spare": ("log",)},
    "readings": {
        "after": ("log", "ask", "reading"), "best_reading": ("log", "ask", "readings"),
        "settled": ("log", "ask", "readings"),
    },
    "comparing": {
        "within": ("one", "other"), "alike": ("one", "other"), "joined": ("one", "other"), "apart": ("one", "other"),
    },
    "mending": {"kept": ("log", "wish"), "mends": ("log", "wishes", "changes")},
    "checker": {"accepts": ("claim", "certificate")},
    "certificates": {
        "certify": ("log",), "certify_most": ("log", "ask"), "certify_least": ("log", "ask"),
        "certify_reached": ("log", "ask", "word"),
    },
}


class Interface(unittest.TestCase):
    def assert_parameters(self, function, expected):
        parameters = inspect.signature(function).parameters
        self.assertEqual(tuple(parameters), expected)
        for parameter in parameters.values():
            self.assertEqual(parameter.kind, inspect.Parameter.POSITIONAL_OR_KEYWORD)

    def test_town(self):
        self.assertEqual(towns.Town.__module__, "bikestands.towns")
        self.assert_parameters(towns.Town, ("slots", "stands", "roads"))
        self.assertEqual(inspect.signature(towns.Town).parameters["roads"].default, ())

    def test_methods_and_properties_of_towns_stand_in_the_class_itself(self):
        own = vars(towns.Town)
        self.assertIsInstance(own["read"], classmethod)
        self.assert_parameters(towns.Town.read, ("text",))
        self.assert_parameters(own["is_ask"], ("self", "value"))
        self.assert_parameters(own["is_fact"], ("self", "value"))
        for name in ("slots", "stands", "roads", "names"):
            self.assertIsInstance(own[name], property)
        for name in ("__init__", "__eq__", "__str__", "__repr__"):
            self.assertIn(name, own)

    def test_log(self):
        self.assertEqual(logs.Log.__module__, "bikestands.logs")
        self.assert_parameters(logs.Log, ("town", "facts"))
        self.assertEqual(inspect.signature(logs.Log).parameters["facts"].default, ())

    def test_methods_and_properties_of_logs_stand_in_the_class_itself(self):
        own = vars(logs.Log)
        self.assertIsInstance(own["read"], classmethod)
        self.assert_parameters(logs.Log.read, ("text",))
        self.assert_parameters(own["bounds"], ("self", "index"))
        self.assert_parameters(own["with_fact"], ("self", "fact"))
        self.assert_parameters(own["without"], ("self", "index"))
        for name in ("town", "facts"):
            self.assertIsInstance(own[name], property)
        for name in ("__init__", "__eq__", "__len__", "__bool__", "__str__", "__repr__"):
            self.assertIn(name, own)

    def test_survey(self):
        self.assertEqual(surveys.Survey.__module__, "bikestands.surveys")
        self.assert_parameters(surveys.Survey, ("town",))
        own = vars(surveys.Survey)
        self.assert_parameters(own["tell"], ("self", "fact"))
        self.assert_parameters(own["ends"], ("self", "ask"))
        self.assert_parameters(own["undo"], ("self",))
        for name in ("town", "log", "changes"):
            self.assertIsInstance(own[name], property)
        for name in ("__init__", "__len__", "__bool__"):
            self.assertIn(name, own)

    def test_desk(self):
        self.assertEqual(desks.Desk.__module__, "bikestands.desks")
        self.assert_parameters(desks.Desk, ())
        own = vars(desks.Desk)
        for name, parameters in (
            ("remove", ("name",)), ("claim", ("claim",)), ("lift", ("index",)), ("undo", ()), ("trial", ()),
            ("tried", ("action",)),
        ):
            self.assert_parameters(own[name], ("self", *parameters))
        for name in ("names", "claims", "changes"):
            self.assertIsInstance(own[name], property)
        for name in ("__init__", "__getitem__", "__setitem__", "__contains__", "__iter__", "__len__", "__bool__"):
            self.assertIn(name, own)

    def test_console(self):
        self.assertEqual(console.Console.__module__, "bikestands.console")
        self.assert_parameters(console.Console, ())
        self.assert_parameters(vars(console.Console)["say"], ("self", "line"))

    def test_functions(self):
        for file, functions in FUNCTIONS.items():
            module = importlib.import_module(f"bikestands.{file}")
            for name, parameters in functions.items():
                function = getattr(module, name)
                self.assertTrue(inspect.isfunction(function))
                self.assertEqual(function.__module__, f"bikestands.{file}")
                self.assert_parameters(function, parameters)
                for parameter in inspect.signature(function).parameters.values():
                    self.assertIs(parameter.default, inspect.Parameter.empty)

    def test_errors_are_defined_in_their_file(self):
        for value in vars(errors).values():
            if inspect.isclass(value):
                self.assertEqual(value.__module__, "bikestands.errors")


class Rules(unittest.TestCase):
    def test_the_folder_has_files_of_code_alone(self):
        found = [path.name for path in FOLDER.iterdir() if path.name != "__pycache__"]
        self.assertEqual(sorted(found), [path.name for path in FILES])
        self.assertIn("__init__.py", found)

    def test_sizes_and_signs(self):
        for path in FILES:
            text = path.read_bytes().decode("ascii")
            lines = text.split("\n")
            with self.subTest(path=path.name):
                self.assertLess(len(lines), 400)
                self.assertLessEqual(max(map(len, lines)), 120)
                self.assertTrue(all(sign == "\n" or " " <= sign <= "~" for sign in text))
            for node in ast.walk(ast.parse(text)):
                if isinstance(node, ast.FunctionDef):
                    self.assertLessEqual(node.end_lineno - node.lineno + 1, 40, node.name)

    def test_imports_are_from_the_defining_files_of_the_package(self):
        for path in FILES:
            for node in ast.walk(ast.parse(path.read_text())):
                self.assertNotIsInstance(node, ast.Import, path.name)
                if isinstance(node, ast.ImportFrom) and node.module != "heapq":
                    self.assertEqual(node.level, 0)
                    self.assertTrue(node.module.startswith("bikestands."), node.module)
                    bound = top_names(FOLDER / (node.module.split(".")[1] + ".py"))
                    self.assertTrue({alias.name for alias in node.names} <= bound, node.module)

    def test_each_module_can_be_imported(self):
        for path in FILES:
            importlib.import_module("bikestands" if path.stem == "__init__" else f"bikestands.{path.stem}")


def top_names(path):
    """The names that the file itself defines."""
    names = set()
    for node in ast.parse(path.read_text()).body:
        if isinstance(node, (ast.FunctionDef, ast.ClassDef)):
            names.add(node.name)
        elif isinstance(node, ast.Assign):
            names.update([target.id for target in node.targets])
    return names


if __name__ == "__main__":
    unittest.main()

"""The names, the files and the parameters that the document's interface lists."""

import builtins
import importlib
import inspect
import unittest

from interface import CLASSES, DESK_METHODS, ERRORS, FUNCTIONS


def parameters(function):
    return list(inspect.signature(function).parameters)


class Interface(unittest.TestCase):

    def test_functions(self):
        for file, functions in FUNCTIONS.items():
            module = importlib.import_module("widefills." + file)
            for name, wanted in functions.items():
                function = getattr(module, name)
                self.assertTrue(inspect.isfunction(function), name)
                self.assertEqual(function.__module__, module.__name__)
                self.assertEqual(parameters(function), wanted, name)

    def test_classes(self):
        for file, classes in CLASSES.items():
            module = importlib.import_module("widefills." + file)
            for name, (wanted, properties, methods) in classes.items():
                made = getattr(module, name)
                self.assertEqual(made.__module__, module.__name__)
                self.assertEqual(parameters(made), wanted)
                for own in properties:
                    self.assertIsInstance(vars(made)[own], property)
                for own in methods:
                    self.assertTrue(inspect.isfunction(vars(made)[own]) or own == "again", own)

    def test_methods_of_the_desk(self):
        desk = importlib.import_module("widefills.desk").Desk
        self.assertIsInstance(vars(desk)["again"], classmethod)
        for name, wanted in DESK_METHODS.items():
            self.assertEqual(parameters(getattr(desk(), name)), wanted, name)


class Errors(unittest.TestCase):

    def test_bases(self):
        errors = importlib.import_module("widefills.errors")
        for (middle, root), leaves in ERRORS.items():
            self.assertEqual(getattr(errors, middle).__bases__, (getattr(builtins, root),))
            for name in leaves:
                self.assertEqual(getattr(errors, name).__bases__, (getattr(errors, middle),), name)
                self.assertEqual(getattr(errors, name).__module__, "widefills.errors")

    def test_constructors(self):
        errors = importlib.import_module("widefills.errors")
        for leaves in ERRORS.values():
            for name, attributes in leaves.items():
                error = getattr(errors, name)
                self.assertIn("__init__", vars(error), name)
                self.assertEqual(parameters(error.__init__), ["self"] + attributes, name)
                values = [[object(), {}], None][:len(attributes)]
                for made in (error(*values), error(**dict(zip(attributes, values)))):
                    for attribute, value in zip(attributes, values):
                        self.assertIs(getattr(made, attribute), value)
                with self.assertRaises(TypeError):
                    error(*values, 1)

    def test_nothing_else(self):
        errors = importlib.import_module("widefills.errors")
        listed = [name for (middle, _), leaves in ERRORS.items() for name in (middle, *leaves)]
        self.assertEqual(sorted(listed), sorted(name for name in vars(errors) if not name.startswith("_")))


if __name__ == "__main__":
    unittest.main()

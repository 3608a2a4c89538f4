"""Point 2 and the interface: each name stands in its file, with its arguments."""

import importlib
import inspect
import unittest

from tests.interface import CLASSES, CONSTANTS, ERRORS, FUNCTIONS


class InterfaceTest(unittest.TestCase):

    def test_functions(self):
        for place, functions in FUNCTIONS.items():
            module = importlib.import_module(place)
            for name, arguments in functions.items():
                function = getattr(module, name)
                self.assertTrue(inspect.isfunction(function), name)
                self.assertEqual(function.__module__, place)
                self.assertEqual(str(inspect.signature(function)), arguments, name)

    def test_errors(self):
        module = importlib.import_module("meridian.errors")
        for name in ERRORS:
            self.assertEqual(getattr(module, name).__module__, "meridian.errors")

    def test_constants(self):
        for place, constants in CONSTANTS.items():
            module = importlib.import_module(place)
            for name, value in constants.items():
                self.assertEqual(getattr(module, name), value)
                self.assertIs(type(getattr(module, name)), type(value))

    def test_classes(self):
        for place, classes in CLASSES.items():
            module = importlib.import_module(place)
            for name, members in classes.items():
                found = getattr(module, name)
                self.assertEqual(found.__module__, place)
                for member, arguments in members.items():
                    self.check_member(found.__dict__[member], arguments, name + "." + member)

    def check_member(self, member, arguments, name):
        if arguments == "property":
            self.assertIsInstance(member, property, name)
        elif arguments.startswith(("class ", "static ")):
            word, arguments = arguments.split(" ", 1)
            self.assertIsInstance(member, classmethod if word == "class" else staticmethod, name)
            self.assertEqual(str(inspect.signature(member.__func__)), arguments, name)
        else:
            self.assertEqual(str(inspect.signature(member)), arguments, name)


if __name__ == "__main__":
    unittest.main()

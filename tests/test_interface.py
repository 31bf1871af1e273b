"""Names, files and classes of the interface, and the errors."""

import importlib
import inspect
import unittest

from ringwalkers.errors import WalkError

from tests.anything import ANYTHING
from tests.calls import CALLS
from tests.interface import errors, functions, methods
from tests.told import ToldCase


def module(file):
    return importlib.import_module("ringwalkers." + file)


class Functions(unittest.TestCase):
    def test_each_is_defined_in_its_file(self):
        for file, name in functions():
            with self.subTest(file=file, name=name):
                function = getattr(module(file), name)
                self.assertTrue(inspect.isfunction(function))
                self.assertEqual(function.__module__, "ringwalkers." + file)

    def test_each_is_called_in_the_tests(self):
        called = [(call.function.__module__, call.name()) for call in CALLS]
        self.assertEqual(called, [("ringwalkers." + file, name) for file, name in functions()])

    def test_the_classes(self):
        for file, name, parameters, told in methods():
            listed = getattr(module(file), name)
            self.assertEqual(listed.__module__, "ringwalkers." + file)
            self.assertEqual(list(inspect.signature(listed).parameters), parameters)
            for method, rest in told.items():
                with self.subTest(name=name, method=method):
                    self.assertIn(method, vars(listed))
                    self.assertEqual(list(inspect.signature(vars(listed)[method]).parameters), ["self"] + rest)


class Errors(ToldCase):
    def test_each_is_a_direct_subclass(self):
        self.assertEqual(WalkError.__bases__, (ValueError,))
        for file, name, _ in errors():
            with self.subTest(name=name):
                error = getattr(module(file), name)
                self.assertEqual(error.__bases__, (WalkError,))
                self.assertEqual(error.__module__, "ringwalkers." + file)

    def test_each_keeps_the_very_things(self):
        for file, name, parameters in errors():
            for thing in ANYTHING:
                with self.subTest(name=name):
                    error = getattr(module(file), name)
                    other = [thing]
                    things = dict(zip(parameters, [thing, other]))
                    for made in (error(*things.values()), error(**things)):
                        self.assertEqual(list(vars(made)), parameters)
                        for parameter in parameters:
                            self.assertIs(getattr(made, parameter), things[parameter])
                    self.assertEqual(list(inspect.signature(error).parameters), parameters)

    def test_each_can_be_raised_and_caught(self):
        for file, name, parameters in errors():
            error = getattr(module(file), name)
            with self.assertRaises(WalkError) as caught:
                raise error(*parameters)
            self.assertIs(type(caught.exception), error)
            self.assertIsInstance(caught.exception, ValueError)

    def test_the_files_list_no_others(self):
        for file in sorted({file for file, _, _ in errors()}):
            listed = [name for known, name, _ in errors() if known == file]
            there = [name for name, thing in vars(module(file)).items()
                     if inspect.isclass(thing) and thing.__module__ == "ringwalkers." + file and name != "WalkError"]
            self.assertEqual(there, listed)


if __name__ == "__main__":
    unittest.main()

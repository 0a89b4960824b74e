"""The names of the interface, in interface.txt: the module, the function, class or method, and its parameters."""

import ast
import inspect
import os
import unittest
from importlib import import_module

HERE = os.path.dirname(os.path.abspath(__file__))


def read_interface():
    """The triples (module, name, parameters) of all lines."""
    with open(os.path.join(HERE, "interface.txt"), encoding="ascii") as file:
        lines = [line.split(" ") for line in file.read().splitlines()]
    return [(line[0], line[1], line[2:]) for line in lines]


def parameters_of(call):
    """The names of the parameters, with their stars, but the object itself."""
    stars = {inspect.Parameter.VAR_POSITIONAL: "*", inspect.Parameter.VAR_KEYWORD: "**"}
    found = [stars.get(one.kind, "") + one.name for one in inspect.signature(call).parameters.values()]
    return found[1:] if found[:1] == ["self"] else found


def defined_in(module):
    """A dict of the functions and classes that the file of the module defines."""
    with open(module.__file__, encoding="ascii") as file:
        tree = ast.parse(file.read())
    return {node.name: node for node in tree.body if isinstance(node, (ast.FunctionDef, ast.ClassDef))}


class InterfaceTest(unittest.TestCase):
    def test_all_names(self):
        for file, name, parameters in read_interface():
            with self.subTest(file=file, name=name):
                module = import_module("fourthlike." + file)
                first, _, method = name.partition(".")
                node = defined_in(module)[first]
                found = getattr(module, first)
                if method:
                    self.assertIn(method, [one.name for one in node.body if isinstance(one, ast.FunctionDef)])
                    found = getattr(found, method)
                self.assertEqual(parameters_of(found), parameters)

    def test_all_modules(self):
        self.assertEqual(len({file for file, _, _ in read_interface()}), 63)
        self.assertGreater(len(read_interface()), 250)

"""The interface of the document: its names and parameters, each in the file that it tells."""

import importlib
import inspect
import os
import unittest

HERE = os.path.dirname(os.path.abspath(__file__))


def parts():
    """The lines about modules, those about methods, and those about properties."""
    with open(os.path.join(HERE, "interface.txt"), encoding="ascii") as text:
        _, *found = text.read().strip().split("\n\n")
    return [part.split("\n") for part in found]


def signature(call, own=False):
    """The parameters of a function or a class, without the object's own one, as the document writes them."""
    told = list(inspect.signature(call).parameters.values())
    return ", ".join(str(one) for one in (told[1:] if own else told))


def classes():
    found = {}
    for line in parts()[0]:
        module, _, told = line.partition(": ")
        if told.startswith("class "):
            name = told[6:told.index("(")]
            found[name] = getattr(importlib.import_module(f"throwshelves.{module}"), name)
    return found


class Interface(unittest.TestCase):
    def test_functions_and_classes(self):
        lines = parts()[0]
        self.assertEqual(len(lines), 156)
        for line in lines:
            module, _, told = line.partition(": ")
            name, _, parameters = told.removeprefix("class ").partition("(")
            call = getattr(importlib.import_module(f"throwshelves.{module}"), name)
            self.assertEqual(inspect.isclass(call), told.startswith("class "), line)
            self.assertEqual(call.__module__, f"throwshelves.{module}", line)
            self.assertEqual(signature(call) + ")", parameters, line)

    def test_methods(self):
        found = classes()
        for line in parts()[1]:
            name, _, told = line.partition(": ")
            for method in told.split("), "):
                head, _, parameters = method.removesuffix(")").partition("(")
                function = vars(found[name])[head]
                plain = inspect.isfunction(function)
                wanted = signature(function, own=True) if plain else signature(getattr(found[name], head))
                self.assertEqual(wanted, parameters, (name, head))

    def test_properties(self):
        found = classes()
        for line in parts()[2]:
            name, _, told = line.partition(": ")
            for one in told.split(" "):
                self.assertIsInstance(vars(found[name])[one], property)
        self.assertEqual(set(found), {line.partition(": ")[0] for part in parts()[1:] for line in part})


if __name__ == "__main__":
    unittest.main()

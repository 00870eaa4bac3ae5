"""Form: what operators, properties, `len` and `==` run calls nothing that may change an object (L5, L28).

Calls are followed by their names alone: a method of a string counts as an own one of the same name.
"""

import ast
import pathlib
import unittest

PACKAGE = pathlib.Path(__file__).resolve().parent.parent / "slowleaders"
# A drive and the like that is called, and a block, may change something.
FREE = ("__init__", "__call__", "__enter__", "__exit__", "__iter__")


def read_package():
    return [ast.parse(path.read_text(encoding="utf-8")) for path in sorted(PACKAGE.glob("*.py"))]


def defined_in(body):
    return [node for node in body if isinstance(node, ast.FunctionDef)]


def is_property(method):
    return any(isinstance(word, ast.Name) and word.id == "property" for word in method.decorator_list)


def is_operator(method):
    name = method.name
    return is_property(method) or name.startswith("__") and name.endswith("__") and name not in FREE


def called_names(function):
    """Return the names that a function calls: those of functions, and those of methods."""
    calls = [node.func for node in ast.walk(function) if isinstance(node, ast.Call)]
    functions = {called.id for called in calls if isinstance(called, ast.Name)}
    methods = {called.attr for called in calls if isinstance(called, ast.Attribute)}
    return functions, methods


def assigns_attribute(function):
    return any(
        isinstance(node, ast.Attribute) and isinstance(node.ctx, (ast.Store, ast.Del))
        for node in ast.walk(function)
    )


class Package:
    """The functions, the methods and the classes of some files."""

    def __init__(self, files):
        classes = [node for file in files for node in file.body if isinstance(node, ast.ClassDef)]
        self.methods = [(made.name, method) for made in classes for method in defined_in(made.body)]
        self.by_function = {
            function.name: [function] for file in files for function in defined_in(file.body)
        }
        for name, method in self.methods:
            # Who calls a class runs its __init__.
            if method.name == "__init__":
                self.by_function[name] = [method]
        self.by_method = {}
        for name, method in self.methods:
            self.by_method.setdefault(method.name, []).append(method)

    def run_by(self, function):
        """Return all functions and methods that a function runs, also through what it calls."""
        found = [function]
        for one in found:
            functions, methods = called_names(one)
            for name in functions:
                found += [other for other in self.by_function.get(name, []) if other not in found]
            for name in methods:
                found += [other for other in self.by_method.get(name, []) if other not in found]
        return found

    def changing(self):
        """Return the names of the methods that change something, also through what they call."""
        return {
            method.name
            for name, method in self.methods
            if method.name != "__init__"
            and any(assigns_attribute(one) for one in self.run_by(method) if one.name != "__init__")
        }

    def faults(self):
        """Return tuples of a class, its operator or property, and a changing name that it calls."""
        changing = self.changing()
        return sorted({
            (name, method.name, called)
            for name, method in self.methods
            if is_operator(method)
            for one in self.run_by(method)
            for called in called_names(one)[1] & changing
        })


class OperatorsTest(unittest.TestCase):
    def test_package(self):
        package = Package(read_package())
        self.assertIn(("Road", "__add__"), [(name, method.name) for name, method in package.methods])
        self.assertEqual(package.faults(), [])

    def test_changing_methods(self):
        changing = Package(read_package()).changing()
        self.assertLessEqual({"join", "remove", "set_kind", "apply", "undo", "redo", "see", "take"}, changing)
        self.assertEqual(changing & {"widened", "order_at", "leader", "position", "drive"}, set())

    def test_faults_are_found(self):
        package = Package([ast.parse(
            "def text(rows):\n"
            "    return ''.join(rows)\n"
            "class Row:\n"
            "    def __init__(self, rows):\n"
            "        self.units = text(rows)\n"
            "    def __add__(self, other):\n"
            "        return Row(other)\n"
            "    def __len__(self):\n"
            "        return len(self.units)\n"
            "class Live:\n"
            "    def join(self, name):\n"
            "        return self.apply(name)\n"
            "    def apply(self, name):\n"
            "        self.name = name\n"
        )])
        self.assertEqual(package.faults(), [("Row", "__add__", "apply"), ("Row", "__add__", "join")])


if __name__ == "__main__":
    unittest.main()

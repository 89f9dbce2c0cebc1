"""What the tests share: exact comparison, errors with their attributes, fresh results."""

import copy
import unittest


def mutables(value):
    """All lists and dicts in a plain value, itself among them."""
    found = []
    if isinstance(value, (list, dict)):
        found.append(value)
    if isinstance(value, (list, tuple)):
        for part in value:
            found.extend(mutables(part))
    if isinstance(value, dict):
        for key, part in value.items():
            found.extend(mutables(key))
            found.extend(mutables(part))
    return found


def shown(value):
    """A value in which each program is its list of nodes, so that it can be compared as written."""
    if isinstance(value, (list, tuple)):
        return type(value)([shown(part) for part in value])
    if isinstance(value, dict):
        return {key: shown(part) for key, part in value.items()}
    return {"program": value.nodes()} if hasattr(value, "nodes") else value


def spoiled(value):
    """Empties each list and dict in a value, the innermost ones first."""
    for part in reversed(mutables(value)):
        part.clear()


class Case(unittest.TestCase):
    """A test case that tells 1 from True, lists from tuples, and dicts by their order, too."""

    def exact(self, got, want):
        """Checks that both are equal, and are written alike: True is not 1, a list no tuple."""
        self.assertEqual(got, want)
        self.assertEqual(repr(got), repr(want))

    def raised(self, error, attributes, call, *args):
        """Checks that the call raises just this error, with these attributes; returns it."""
        try:
            got = call(*args)
        except error as caught:
            self.assertIs(type(caught), error)
            for name, value in attributes.items():
                self.exact(getattr(caught, name), value)
            return caught
        self.fail(f"{error.__name__} {attributes} was not raised; the call returned {got!r}")

    def apart(self, error, handed):
        """Checks that an error keeps no list and no dict of what was handed in."""
        parts = {id(part) for part in mutables(handed)}
        held = mutables(list(vars(error).values())) + mutables(error.args)
        self.assertFalse([part for part in held if id(part) in parts])

    def fresh(self, call, *args):
        """Checks that a call returns new lists and dicts each time, no two of them one."""
        first, second = call(*args), call(*args)
        want = copy.deepcopy(second)
        self.exact(first, want)
        parts = mutables(first) + mutables(second)
        self.assertTrue(parts)
        self.assertEqual(len({id(part) for part in parts}), len(parts))
        spoiled(first)
        self.exact(second, want)
        self.exact(call(*args), want)

    def untouched(self, call, *args):
        """Checks that a call leaves its arguments as they are; returns what it returns."""
        kept = copy.deepcopy(shown(args))
        try:
            return call(*args)
        finally:
            self.exact(shown(args), kept)


# Any values that are no word, no type, no value of any type, no node and no program.
NOTHINGS = [
    None, True, False, 0, 1, -1, 10 ** 39, "", " ", "A", "a b", "\t", "\n", "-", "=", ":",
    (), [], {}, (None,), [[]], {"a": []}, ((), ()), ["a", "b"], {"lot": ("a", "b")},
    ("a", [1, {"b": [2]}]), [{}, {}], ((((),),),), "abcdefghi",
]

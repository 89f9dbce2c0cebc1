"""The errors of the interface: what they are beneath, and what they keep."""

from cases import Case
from tickworks import errors
from tickworks.errors import NameMissing, TickError
from tickworks.nodes import Program

TICK_ERRORS = {
    "TooMany": (), "BadDeed": (), "NothingDone": (), "BadState": (), "NotSwift": (),
    "OtherFace": (), "NoPartner": (), "BadParting": (), "Parted": ("inputs",),
    "NotYet": ("number",), "BadNumber": ("number",), "BadType": ("path",),
    "BadValue": ("path",), "BadProgram": ("path",), "BadName": ("name",),
    "TwiceTold": ("name",), "MixedTypes": ("node", "stream"),
    "Unclocked": ("node", "stream", "one", "other"), "Ring": ("streams",),
    "BadInputs": ("number",), "BadText": ("place",),
}
NAME_ERRORS = {"UnknownName": ("name",), "NoMoment": ("number",)}
ALL_ERRORS = {**TICK_ERRORS, **NAME_ERRORS}


class TestErrors(Case):
    """Error classes by themselves."""

    def test_bases(self):
        self.assertEqual(TickError.__bases__, (ValueError,))
        self.assertEqual(NameMissing.__bases__, (LookupError,))
        for name in TICK_ERRORS:
            self.assertEqual(getattr(errors, name).__bases__, (TickError,), name)
        for name in NAME_ERRORS:
            self.assertEqual(getattr(errors, name).__bases__, (NameMissing,), name)

    def test_they_are_defined_in_their_file(self):
        for name in [*ALL_ERRORS, "TickError", "NameMissing"]:
            self.assertEqual(getattr(errors, name).__module__, "tickworks.errors")

    def test_arguments_are_attributes(self):
        values = [(0, 1), "word", 7, ("a", ("b", 2))]
        for name, attributes in ALL_ERRORS.items():
            given = values[:len(attributes)]
            error = getattr(errors, name)(*given)
            for attribute, value in zip(attributes, given):
                self.exact(getattr(error, attribute), value)

    def test_each_attribute_has_its_own_argument(self):
        error = errors.Unclocked("n", "s", (("a", "yes"),), ())
        self.exact([error.node, error.stream, error.one, error.other], ["n", "s", (("a", "yes"),), ()])
        error = errors.MixedTypes("n", "s")
        self.exact([error.node, error.stream], ["n", "s"])

    def test_lists_and_dicts_are_copied(self):
        for name, attributes in ALL_ERRORS.items():
            given = [[1, {"a": [2, ()]}, ([3], {"b": {}})] for _ in attributes]
            error = getattr(errors, name)(*given)
            kept = [getattr(error, attribute) for attribute in attributes]
            self.exact(kept, given)
            self.apart(error, given)

    def test_keys_that_are_tuples(self):
        given = {("a", (1, None)): [1], 2: "x", None: (True, [])}
        error = errors.UnknownName(given)
        self.exact(error.name, given)
        self.assertIsNot(error.name, given)
        self.assertIsNot(error.name[None][1], given[None][1])

    def test_deep_and_wide_values(self):
        deep = ["a"]
        for level in range(28):
            deep = [deep, ()] if level % 2 else {"b": deep}
        wide = [[number] for number in range(40000)]
        for given in [deep, wide, (deep, [deep])]:
            for error in [errors.UnknownName(given), errors.BadName(given)]:
                self.exact(error.name, given)
                self.apart(error, given)

    def test_what_is_changed_later(self):
        given = [["a"], {"b": ["c"]}]
        error = errors.BadName(given)
        given[0].append("d")
        given[1]["b"].append("e")
        given.append("f")
        self.exact(error.name, [["a"], {"b": ["c"]}])

    def test_values_that_are_no_plain_ones(self):
        node = ("n", (("i", ("count", 2)),), ("a",), ((("a",), ("const", ("count", 2), 1, "i")),))
        program = Program([node])
        self.assertEqual(errors.UnknownName([program]).name, [program])
        self.exact(errors.UnknownName(True).name, True)
        self.exact(errors.UnknownName(None).name, None)

    def test_they_are_caught_by_their_bases(self):
        for name, attributes in TICK_ERRORS.items():
            with self.assertRaises(ValueError):
                raise getattr(errors, name)(*attributes)
        for name, attributes in NAME_ERRORS.items():
            with self.assertRaises(LookupError):
                raise getattr(errors, name)(*attributes)

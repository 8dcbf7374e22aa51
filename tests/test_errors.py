import copy
import unittest

from factsandfar import errors

WITHOUT_FIELDS = ["InvalidConcept", "InvalidQuery", "InvalidStep", "InvalidChange", "InvalidRenaming", "InvalidCommand"]
WITH_FIELDS = {
    "InvalidOntology": "index",
    "InvalidFacts": "index",
    "InvalidTables": "table",
    "InvalidConstraints": "index",
    "InvalidMappings": "index",
    "ParseError": "line",
}
OTHERS = {
    "InvalidAnswer": (LookupError, None),
    "UnknownName": (LookupError, "name"),
    "LimitExceeded": (OverflowError, "limit"),
    "Inconsistent": (RuntimeError, "certificate"),
}


class Errors(unittest.TestCase):
    def test_base_classes(self):
        self.assertEqual(errors.OntologyError.__bases__, (ValueError,))
        for name in WITHOUT_FIELDS + list(WITH_FIELDS):
            self.assertEqual(getattr(errors, name).__bases__, (errors.OntologyError,), name)
        for name, (base, field) in OTHERS.items():
            self.assertEqual(getattr(errors, name).__bases__, (base,), name)

    def test_all_are_defined_in_their_file(self):
        for name in ["OntologyError"] + WITHOUT_FIELDS + list(WITH_FIELDS) + list(OTHERS):
            self.assertEqual(getattr(errors, name).__module__, "factsandfar.errors")

    def test_without_fields(self):
        for name in WITHOUT_FIELDS + ["InvalidAnswer"]:
            error = getattr(errors, name)()
            self.assertIsInstance(error, Exception)
            self.assertEqual(vars(error), {})

    def test_fields_by_position_and_by_name(self):
        fields = dict(WITH_FIELDS, **{name: field for name, (base, field) in OTHERS.items() if field})
        for name, field in fields.items():
            for value in (None, 0, 3, "staff", ("staff", 1), ([], 0, 0, 0)):
                made = getattr(errors, name)
                self.assertEqual(vars(made(value)), {field: value}, name)
                self.assertEqual(vars(made(**{field: value})), {field: value}, name)

    def test_fields_are_required(self):
        for name in list(WITH_FIELDS) + ["UnknownName", "LimitExceeded", "Inconsistent"]:
            with self.assertRaises(TypeError):
                getattr(errors, name)()

    def test_raised_and_caught_by_their_base_classes(self):
        with self.assertRaises(ValueError):
            raise errors.ParseError(2)
        with self.assertRaises(LookupError):
            raise errors.UnknownName("staff")
        with self.assertRaises(ArithmeticError):
            raise errors.LimitExceeded(64)
        with self.assertRaises(RuntimeError):
            raise errors.Inconsistent(([], 0, 0, 0))

    def test_arguments_are_copied(self):
        conflict = ([(("concept", "a", ("p", "1")), ("given",))], 0, 0, 0)
        error = errors.Inconsistent(conflict)
        before = copy.deepcopy(conflict)
        conflict[0].append("more")
        self.assertEqual(error.certificate, before)
        name = [{"a": [1]}]
        error = errors.UnknownName(name)
        name[0]["a"].append(2)
        self.assertEqual(error.name, [{"a": [1]}])


if __name__ == "__main__":
    unittest.main()

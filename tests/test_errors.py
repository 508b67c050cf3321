import inspect
import unittest
from itertools import permutations

from fewspans import errors

# Each row: the name of the class, its fields in order, its base.
ROWS = (
    ("TooWide", ("bound",), errors.SpanError),
    ("NotGenerated", ("demand",), errors.SpanError),
    ("OutOfRange", (), errors.SpanError),
    ("TooMany", ("bound",), errors.SpanError),
    ("BadTargets", ("error",), errors.SpanError),
    ("BadPieces", (), errors.SpanError),
    ("BadInterval", ("value",), errors.SpanError),
    ("Duplicate", ("value",), errors.SpanError),
    ("TooManyEdits", (), errors.SpanError),
    ("NothingToUndo", (), errors.SpanError),
    ("BadEdits", (), errors.SpanError),
    ("BadEdit", ("index",), errors.SpanError),
    ("Rejected", ("index",), errors.SpanError),
    ("Busy", (), errors.SpanError),
    ("BadText", ("index",), errors.SpanError),
    ("Unknown", ("value",), LookupError),
    ("NoVersion", ("value",), LookupError),
)

# Values that an error may be made of, among them some that count as false and some that Python could copy.
VALUES = (
    8, 0, -1, None, True, False, "", "0-1", (2, (0, 3)), (None, "tuple"), (1, "order"), (0, True), (),
    [0, 1], [], {"a": [1]}, {}, ((0, 1), [2, {}]), 10 ** 29,
)


class Errors(unittest.TestCase):
    def test_base_of_all(self):
        self.assertEqual(errors.SpanError.__bases__, (ValueError,))
        self.assertFalse(issubclass(errors.SpanError, LookupError))

    def test_bases(self):
        for name, fields, base in ROWS:
            with self.subTest(name):
                error_class = getattr(errors, name)
                self.assertEqual(error_class.__name__, name)
                self.assertEqual(error_class.__bases__, (base,))
                self.assertEqual(issubclass(error_class, ValueError), base == errors.SpanError)
                self.assertEqual(issubclass(error_class, LookupError), base == LookupError)

    def test_none_derives_from_another(self):
        for (first, _, _), (second, _, _) in permutations(ROWS, 2):
            self.assertFalse(issubclass(getattr(errors, first), getattr(errors, second)), (first, second))

    def test_fields(self):
        for name, fields, base in ROWS:
            if fields:
                with self.subTest(name):
                    parameters = inspect.signature(getattr(errors, name)).parameters
                    self.assertEqual(tuple(parameters), fields)
                    self.assertEqual({each.default for each in parameters.values()}, {inspect.Parameter.empty})

    def test_attributes_are_the_very_values(self):
        for name, fields, base in ROWS:
            for value in VALUES:
                with self.subTest(name, value=value):
                    error = getattr(errors, name)(*(value for field in fields))
                    self.assertEqual(tuple(vars(error)), fields)
                    for field in fields:
                        self.assertIs(getattr(error, field), value)

    def test_each_is_raised_and_caught_by_its_base_and_its_name(self):
        for name, fields, base in ROWS:
            error_class = getattr(errors, name)
            for caught in (error_class, base):
                with self.subTest(name, caught=caught):
                    with self.assertRaises(caught) as context:
                        raise error_class(*((2, (0, 3)) for field in fields))
                    self.assertIs(type(context.exception), error_class)
                    for field in fields:
                        self.assertEqual(getattr(context.exception, field), (2, (0, 3)))

    def test_fields_must_be_passed(self):
        for name, fields, base in ROWS:
            if fields:
                with self.subTest(name), self.assertRaises(TypeError):
                    getattr(errors, name)()

    def test_shown_as_the_document_writes_them(self):
        self.assertEqual(repr(errors.Duplicate((0, 3))), "Duplicate((0, 3))")
        self.assertEqual(repr(errors.Rejected(1)), "Rejected(1)")
        self.assertEqual(repr(errors.OutOfRange()), "OutOfRange()")


if __name__ == "__main__":
    unittest.main()

"""Promise 1: the errors."""

import unittest

from addedgrounds import errors
from tests.samples import OTHER_VALUES, P

FIELDS = {
    "InvalidName": ("value",), "InvalidNumber": ("value",), "InvalidFormula": ("value",),
    "InvalidShape": ("value",), "InvalidRow": ("at",), "InvalidCommand": ("path",),
    "InvalidText": ("line",), "InvalidDeed": ("at",), "InvalidPage": ("line",),
    "TooMany": ("most",), "TooLarge": ("most",), "Circular": ("name",), "NameInUse": ("user",),
    "Full": ("most",), "Refused": ("path", "reason"), "UnknownName": ("value",), "NothingLeft": (),
}
BASES = {name: errors.GroundError for name in FIELDS}
BASES["UnknownName"] = errors.Missing
BASES["NothingLeft"] = IndexError
BASES["GroundError"] = ValueError
BASES["Missing"] = LookupError


def class_of(name):
    return getattr(errors, name)


class ErrorsTest(unittest.TestCase):
    def test_direct_base_classes(self):
        for name, base in BASES.items():
            self.assertEqual(class_of(name).__bases__, (base,), name)

    def test_no_class_is_under_another_one_except_as_stated(self):
        above = {name: {base.__name__ for base in class_of(name).__mro__} & set(BASES) for name in BASES}
        for name in BASES:
            expected = {name}
            if BASES[name] in (errors.GroundError, errors.Missing):
                expected.add(BASES[name].__name__)
            self.assertEqual(above[name], expected)

    def test_code_is_the_name_of_the_class(self):
        for name, fields in FIELDS.items():
            error = class_of(name)(*[0 for field in fields])
            self.assertEqual(error.code, name)

    def test_attributes_have_any_values(self):
        for name, fields in FIELDS.items():
            for value in OTHER_VALUES + [P, "h", {"a": 1}]:
                values = [value, *reversed(OTHER_VALUES)][:len(fields)]
                error = class_of(name)(*values)
                self.assertEqual([getattr(error, field) for field in fields], values)
                told = [isinstance(getattr(error, field), bool) for field in fields]
                self.assertEqual(told, [isinstance(item, bool) for item in values])

    def test_parameters_have_these_names(self):
        for name, fields in FIELDS.items():
            values = {field: [field] for field in fields}
            error = class_of(name)(**values)
            self.assertEqual({field: getattr(error, field) for field in fields}, values)

    def test_number_of_parameters(self):
        for name, fields in FIELDS.items():
            with self.assertRaises(TypeError):
                class_of(name)(*[0 for field in fields], 0)
            if fields:
                with self.assertRaises(TypeError):
                    class_of(name)()

    def test_lists_and_dicts_are_copied(self):
        inner = [1]
        value = [inner, (inner, {"a": inner})]
        error = errors.InvalidName(value)
        inner.append(2)
        value.append(3)
        self.assertEqual(error.value, [[1], ([1], {"a": [1]})])
        refused = errors.Refused(inner, inner)
        inner.append(3)
        self.assertEqual([refused.path, refused.reason], [[1, 2], [1, 2]])

    def test_lists_that_are_nested_12_deep_are_copied(self):
        for wrap in (lambda value: [value], lambda value: (value,)):
            inner = []
            value = inner
            for _ in range(11):
                value = wrap(value)
            error = errors.InvalidNumber(value)
            inner.append(0)
            expected = []
            for _ in range(11):
                expected = wrap(expected)
            self.assertEqual(error.value, expected)

    def test_large_formulas_may_be_values(self):
        formula = P
        for _ in range(2000):
            formula = ("and", formula, formula)
        self.assertEqual(len(errors.InvalidFormula(formula).value), 3)

    def test_they_are_raised_and_caught(self):
        for name, fields in FIELDS.items():
            with self.assertRaises(BASES[name]):
                raise class_of(name)(*[0 for field in fields])


if __name__ == "__main__":
    unittest.main()

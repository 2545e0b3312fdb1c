"""The errors of the interface, and [2]: an error keeps a value as it was passed."""

import inspect
import unittest

from littlewebs import errors
from littlewebs.errors import (
    BadLittle, BadLot, BadNumber, BadTable, BadText, BadWeb, BadWord, Misfit, Missing, NoPlace, TooMany, Twice,
    WebError,
)
from tests.values import ANY

FIELDS = {
    BadWeb: ("part",), BadLittle: ("part",), BadWord: ("part",), BadTable: ("part",), BadLot: ("part",),
    BadNumber: ("part",), Misfit: ("part",), Missing: ("value",), NoPlace: ("value",), Twice: ("value",),
    TooMany: ("what", "most"), BadText: ("line", "item"),
}


class Fields(unittest.TestCase):
    def assert_kept(self, error, fields, passed):
        for field, value in zip(fields, passed):
            self.assertIs(getattr(error, field), value)

    def test_by_place(self):
        for kind, fields in FIELDS.items():
            for value in ANY:
                passed = (value, "other")[:len(fields)]
                with self.subTest(kind=kind.__name__, value=value):
                    self.assert_kept(kind(*passed), fields, passed)

    def test_by_name(self):
        for kind, fields in FIELDS.items():
            for value in ANY:
                passed = ("other", value)[-len(fields):]
                with self.subTest(kind=kind.__name__, value=value):
                    self.assert_kept(kind(**dict(zip(fields, passed))), fields, passed)

    def test_names_in_another_order(self):
        self.assert_kept(TooMany(most=24, what="places"), ("what", "most"), ("places", 24))
        self.assert_kept(BadText(item=3, line=0), ("line", "item"), (0, 3))

    def test_first_by_place_second_by_name(self):
        self.assert_kept(TooMany("places", most=24), ("what", "most"), ("places", 24))
        self.assert_kept(BadText(0, item=3), ("line", "item"), (0, 3))

    def test_a_list_is_kept_as_it_was_passed(self):
        passed = [1, [2]]
        self.assertIs(NoPlace(passed).value, passed)
        self.assertEqual(NoPlace(passed).value, [1, [2]])
        self.assertIs(TooMany("places", passed).most, passed)

    def test_truths_stay_truths(self):
        self.assertIs(NoPlace(True).value, True)
        self.assertIs(Twice(value=False).value, False)

    def test_raised_they_keep_their_fields(self):
        for kind, fields in FIELDS.items():
            passed = ([1], (2,))[:len(fields)]
            with self.subTest(kind=kind.__name__), self.assertRaises(kind) as caught:
                raise kind(*passed)
            self.assert_kept(caught.exception, fields, passed)

    def test_too_few_and_too_many_fields(self):
        for kind, fields in FIELDS.items():
            with self.subTest(kind=kind.__name__):
                self.assertRaises(TypeError, kind)
                self.assertRaises(TypeError, kind, *(fields + ("more",)))
                self.assertRaises(TypeError, kind, **{field + "s": 1 for field in fields})

    def test_messages_can_be_told(self):
        for kind, fields in FIELDS.items():
            self.assertIsInstance(str(kind(*fields)), str)
            self.assertIsInstance(str(kind(**{field: 1 for field in fields})), str)


class Kinds(unittest.TestCase):
    def test_the_base(self):
        self.assertEqual(WebError.__bases__, (ValueError,))
        self.assertIsInstance(WebError(), ValueError)

    def test_each_is_a_web_error_and_a_value_error(self):
        for kind, fields in FIELDS.items():
            for caught_as in (WebError, ValueError):
                with self.subTest(kind=kind.__name__), self.assertRaises(caught_as):
                    raise kind(*fields)

    def test_each_stands_directly_below_its_base(self):
        for kind in FIELDS:
            base = Missing if kind is NoPlace else WebError
            with self.subTest(kind=kind.__name__):
                self.assertEqual(kind.__bases__, (base,))

    def test_none_is_of_another_class(self):
        for kind, fields in FIELDS.items():
            for other in FIELDS:
                told = other is kind or (kind is NoPlace and other is Missing)
                with self.subTest(kind=kind.__name__, other=other.__name__):
                    self.assertIs(isinstance(kind(*fields), other), told)

    def test_none_is_below_another_error_of_python(self):
        for kind in FIELDS:
            with self.subTest(kind=kind.__name__):
                foreign = [base for base in kind.__mro__ if base.__module__ == "builtins"]
                self.assertEqual(foreign, [ValueError, Exception, BaseException, object])

    def test_each_is_defined_in_its_file_and_there_is_no_other(self):
        found = [kind for _, kind in inspect.getmembers(errors, inspect.isclass)]
        self.assertEqual({kind.__name__ for kind in found}, {kind.__name__ for kind in [WebError, *FIELDS]})
        for kind in found:
            self.assertEqual(kind.__module__, "littlewebs.errors")

    def test_each_takes_its_fields_in_its_own_body(self):
        for kind, fields in FIELDS.items():
            self.assertIn("__init__", vars(kind))
            self.assertEqual(tuple(inspect.signature(kind).parameters), fields)

"""[45], [4]: the errors."""

import inspect
import unittest

from recordyard import errors
from tests.helpers import objects

FIELDS = {
    "BadLevel": "level",
    "BadName": "name",
    "BadExtra": "name",
    "BadMessage": "msg",
    "BadField": "name",
    "BadFormat": "fmt",
    "BadStyle": "style",
    "BadMode": "mode",
    "BadWhen": "when",
    "BadSettings": "path",
    "NotJudged": "path",
    "BadDeed": "deed",
}
NAMES = sorted(list(FIELDS) + ["BadCuts"])


def made(name, *thing):
    return getattr(errors, name)(*(thing if name != "BadCuts" else ()))


class Errors(unittest.TestCase):
    def test_yard_error_is_a_direct_subclass_of_value_error(self):
        self.assertEqual(errors.YardError.__bases__, (ValueError,))

    def test_all_others_are_direct_subclasses_of_yard_error(self):
        self.assertEqual(len(NAMES), 13)
        for name in NAMES:
            self.assertEqual(getattr(errors, name).__bases__, (errors.YardError,), name)

    def test_there_are_no_others(self):
        classes = [name for name, thing in vars(errors).items() if inspect.isclass(thing)]
        self.assertEqual(sorted(classes), sorted(NAMES + ["YardError"]))

    def test_fields_hold_what_was_passed_by_position(self):
        for name, field in FIELDS.items():
            for thing in objects():
                self.assertIs(getattr(getattr(errors, name)(thing), field), thing)

    def test_fields_hold_what_was_passed_by_keyword(self):
        for name, field in FIELDS.items():
            for thing in objects():
                self.assertIs(getattr(getattr(errors, name)(**{field: thing}), field), thing)

    def test_objects_are_kept_as_they_are_and_not_changed(self):
        for name, field in FIELDS.items():
            for thing, same in zip(objects(), objects()):
                error = getattr(errors, name)(thing)
                self.assertEqual(repr(getattr(error, field)), repr(same))

    def test_parameters_have_the_names_of_the_fields(self):
        for name in NAMES:
            told = list(inspect.signature(getattr(errors, name)).parameters)
            self.assertEqual(told, [FIELDS[name]] if name in FIELDS else [])

    def test_bad_cuts_has_no_field(self):
        self.assertEqual(vars(errors.BadCuts()), {})
        with self.assertRaises(TypeError):
            errors.BadCuts(1)

    def test_other_errors_need_their_object(self):
        for name in FIELDS:
            with self.assertRaises(TypeError):
                getattr(errors, name)()

    def test_an_error_is_of_its_own_class_and_those_above_alone(self):
        for name in NAMES:
            error = made(name, 1)
            self.assertIsInstance(error, errors.YardError)
            self.assertIsInstance(error, ValueError)
            for other in NAMES:
                self.assertEqual(isinstance(error, getattr(errors, other)), name == other)

    def test_an_error_is_caught_as_each_of_its_three_classes(self):
        for name in NAMES:
            for kind in (getattr(errors, name), errors.YardError, ValueError):
                for thing in objects():
                    with self.assertRaises(kind) as caught:
                        raise made(name, thing)
                    self.assertIs(type(caught.exception), getattr(errors, name))
                    self.assertIsInstance(str(caught.exception), str)

    def test_an_error_shows_its_object(self):
        for name in FIELDS:
            self.assertIn("xyz", str(made(name, "xyz")))
            self.assertIn("('a', 1)", str(made(name, ("a", 1))))

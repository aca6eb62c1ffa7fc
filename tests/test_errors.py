"""The errors of the interface."""

import unittest

from onerest import errors

WITHOUT_FIELD = [
    "BadBook", "BadState", "BadTree", "NoNode", "NoEnd", "NoOneRest", "BadReader", "UnlikeBooks",
    "TooMany", "BadLine", "BadOrder", "BadRule", "NothingToUndo", "BadCommand",
]
FIELDS = {"BadStep": "place", "BadWay": "place", "BadText": "line"}
NAMES = WITHOUT_FIELD + sorted(FIELDS)


class Errors(unittest.TestCase):
    def test_there_are_seventeen(self):
        self.assertEqual(len(set(NAMES)), 17)
        found = [name for name in vars(errors) if isinstance(getattr(errors, name), type)]
        self.assertEqual(sorted(found), sorted([*NAMES, "RestError"]))

    def test_rest_error_stands_directly_under_value_error(self):
        self.assertEqual(errors.RestError.__bases__, (ValueError,))
        with self.assertRaises(ValueError):
            raise errors.RestError("a text")

    def test_each_is_a_rest_error_and_none_is_another_one(self):
        for name in NAMES:
            with self.subTest(name=name):
                one = getattr(errors, name)
                self.assertEqual(one.__bases__, (errors.RestError,))
                self.assertTrue(issubclass(one, ValueError))
                for other in NAMES:
                    if other != name:
                        self.assertFalse(issubclass(one, getattr(errors, other)))

    def test_each_is_defined_in_this_module(self):
        for name in [*NAMES, "RestError"]:
            self.assertEqual(getattr(errors, name).__module__, "onerest.errors")

    def test_those_without_a_field_are_made_with_one_text(self):
        for name in WITHOUT_FIELD:
            with self.subTest(name=name):
                with self.assertRaises(errors.RestError) as caught:
                    raise getattr(errors, name)("some text")
                self.assertEqual(str(caught.exception), "some text")

    def test_fields_are_set_by_position_and_by_name(self):
        for name, field in FIELDS.items():
            for worth in (0, 7, 10 ** 59):
                with self.subTest(name=name, worth=worth):
                    made = getattr(errors, name)
                    self.assertEqual(getattr(made(worth), field), worth)
                    self.assertEqual(getattr(made(**{field: worth}), field), worth)
                    with self.assertRaises(made) as caught:
                        raise made(worth)
                    self.assertEqual(getattr(caught.exception, field), worth)


if __name__ == "__main__":
    unittest.main()

"""[3] and laidforall/errors.py: the error classes and their fields."""

import unittest

from laidforall import errors

FIELDS = {
    "BadMarks": ("at",),
    "TooLarge": ("many",),
    "NoPlace": ("place",),
    "Taken": ("kind",),
    "Unknown": ("kind",),
    "Misfit": ("kind",),
    "Strange": ("place",),
    "BadPattern": ("text",),
    "BadValue": ("text",),
    "BadLine": ("line",),
    "BadOutline": ("ring", "point"),
    "BadFace": ("sign",),
    "BadJoint": ("text",),
    "BadBook": ("field",),
    "BadLaying": ("step",),
    "NoSuchNumber": ("number",),
    "NoSign": ("origin",),
    "BadCommand": ("line",),
}


class ErrorsTest(unittest.TestCase):
    def test_fields_in_order(self):
        for name, fields in FIELDS.items():
            told = [f"value {index}" for index in range(len(fields))]
            error = getattr(errors, name)(*told)
            self.assertEqual([getattr(error, field) for field in fields], told, name)

    def test_wrong_number_of_fields(self):
        for name, fields in FIELDS.items():
            with self.assertRaises(TypeError):
                getattr(errors, name)()
            with self.assertRaises(TypeError):
                getattr(errors, name)(*range(len(fields) + 1))

    def test_each_is_directly_below_laid_error(self):
        for name in FIELDS:
            self.assertEqual(getattr(errors, name).__bases__, (errors.LaidError,), name)
        self.assertEqual(errors.LaidError.__bases__, (ValueError,))

    def test_none_is_another_one(self):
        for name in FIELDS:
            for other in FIELDS:
                below = issubclass(getattr(errors, name), getattr(errors, other))
                self.assertEqual(below, name == other)


if __name__ == "__main__":
    unittest.main()

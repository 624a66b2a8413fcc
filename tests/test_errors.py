"""[5]: the classes of the refusals, and their fields."""

import unittest

from lanternrows import errors

NAMES = [
    "NoLayer", "NoWindow", "NoSheet", "NoMoment", "NoRow", "NoNumber", "NoDrawings", "Unlike", "Endless",
    "Squeezed", "NoPaper", "NoDeed", "NoText", "NoWords", "TooMany", "Leaned",
]


class ErrorClasses(unittest.TestCase):
    def test_the_head_stands_straight_under_value_error(self):
        self.assertEqual(errors.LanternError.__bases__, (ValueError,))

    def test_each_stands_straight_under_the_head_and_under_no_other_one(self):
        for name in NAMES:
            with self.subTest(name=name):
                self.assertEqual(getattr(errors, name).__bases__, (errors.LanternError,))

    def test_each_is_a_class_of_its_own(self):
        classes = [getattr(errors, name) for name in NAMES]
        self.assertEqual(len(set(classes)), len(NAMES))
        for name, one in zip(NAMES, classes):
            self.assertEqual(one.__name__, name)


class ErrorFields(unittest.TestCase):
    def test_too_many(self):
        for many, most in ((9, 8), (5, 4), (200, 24)):
            error = errors.TooMany(many, most)
            self.assertEqual((error.many, error.most), (many, most))

    def test_leaned(self):
        for numbers in ((1,), (3, 4, 9)):
            error = errors.Leaned(numbers)
            self.assertEqual(error.numbers, numbers)
            self.assertIsInstance(error.numbers, tuple)

    def test_each_object_has_its_own_fields(self):
        one, other = errors.TooMany(9, 8), errors.TooMany(5, 4)
        self.assertEqual((one.many, one.most, other.many, other.most), (9, 8, 5, 4))
        first, second = errors.Leaned((1,)), errors.Leaned((2, 3))
        self.assertEqual((first.numbers, second.numbers), ((1,), (2, 3)))

    def test_they_are_caught_as_refusals(self):
        for error in (errors.TooMany(9, 8), errors.Leaned((1, 2)), errors.NoLayer("none")):
            with self.assertRaises(errors.LanternError):
                raise error

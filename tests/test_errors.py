"""Point 4 and the interface of sixdot/errors.py."""

import unittest

from sixdot import errors

# Each class with the names of its arguments, and values for them.
CLASSES = {
    "TextError": (("line", 3), ("column", 14), ("reason", "sign")),
    "TooLarge": (("limit", "text"),),
    "NoWriting": (("block", 0),),
    "NoLayout": (("line", 7),),
    "Unreadable": (("place", (0, 1, 0)), ("reason", "lines")),
    "SeveralTexts": (("first", "a"), ("second", "b")),
    "NoText": (("place", 5),),
    "StrangeSheet": (("place", 2),),
    "NotMissing": (("number", 1),),
    "InvalidLine": (("line", "a\tb"),),
    "InvalidShape": (),
    "InvalidJournal": (),
}


class ErrorsTest(unittest.TestCase):
    def test_the_base_class_is_a_value_error(self):
        self.assertEqual(errors.SixdotError.__bases__, (ValueError,))

    def test_each_class_stands_directly_below_the_base_class(self):
        for name in CLASSES:
            with self.subTest(name):
                self.assertEqual(getattr(errors, name).__bases__, (errors.SixdotError,))

    def test_there_are_no_other_classes(self):
        classes = [name for name, value in vars(errors).items() if isinstance(value, type)]
        self.assertEqual(sorted(classes), sorted([*CLASSES, "SixdotError"]))

    def test_arguments_by_position_are_attributes(self):
        for name, told in CLASSES.items():
            with self.subTest(name):
                error = getattr(errors, name)(*[value for _, value in told])
                self.assertEqual([getattr(error, key) for key, _ in told], [value for _, value in told])

    def test_arguments_by_name_are_attributes(self):
        for name, told in CLASSES.items():
            with self.subTest(name):
                error = getattr(errors, name)(**dict(told))
                self.assertEqual([getattr(error, key) for key, _ in told], [value for _, value in told])

    def test_each_can_be_raised_and_has_a_message(self):
        for name, told in CLASSES.items():
            with self.subTest(name):
                with self.assertRaises(errors.SixdotError) as caught:
                    raise getattr(errors, name)(*[value for _, value in told])
                self.assertIsInstance(caught.exception, ValueError)
                self.assertIsInstance(str(caught.exception), str)

    def test_wrong_numbers_of_arguments(self):
        for name, told in CLASSES.items():
            if told:
                with self.subTest(name), self.assertRaises(TypeError):
                    getattr(errors, name)()
                with self.subTest(name), self.assertRaises(TypeError):
                    getattr(errors, name)(*[0] * (len(told) + 1))


if __name__ == "__main__":
    unittest.main()

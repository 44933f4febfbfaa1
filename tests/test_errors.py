import unittest

from leastdeeds import errors

MADE_OF_TEXT = (
    "NoMachine", "TooLong", "NoWord", "NoWork", "NoBound", "TooMany",
    "NoPlace", "NoDeed", "Nothing", "NoText", "NoLine",
)
WITH_FIELD = {"NoRow": "place", "NoRule": "number", "NoStep": "place"}


class ErrorsTest(unittest.TestCase):
    def test_the_base_stands_right_under_value_error(self):
        self.assertEqual(errors.DeedError.__bases__, (ValueError,))

    def test_each_stands_right_under_the_base(self):
        for name in MADE_OF_TEXT + tuple(WITH_FIELD):
            with self.subTest(name):
                self.assertEqual(getattr(errors, name).__bases__, (errors.DeedError,))

    def test_none_is_of_another_ones_class(self):
        classes = [getattr(errors, name) for name in MADE_OF_TEXT + tuple(WITH_FIELD)]
        for one in classes:
            for other in classes:
                if one is not other:
                    self.assertFalse(issubclass(one, other), (one, other))
        self.assertEqual(len({one.__name__ for one in classes}), 14)

    def test_fields(self):
        for name, field in WITH_FIELD.items():
            for number in (0, 1, 39, 1000):
                with self.subTest(name, number=number):
                    made = getattr(errors, name)(number)
                    self.assertEqual(getattr(made, field), number)
                    self.assertIs(type(getattr(made, field)), int)
                    self.assertIsInstance(made, errors.DeedError)

    def test_made_of_a_text(self):
        for name in MADE_OF_TEXT:
            with self.subTest(name):
                made = getattr(errors, name)("some words")
                self.assertIsInstance(made, errors.DeedError)
                self.assertEqual(str(made), "some words")

    def test_errors_can_be_raised_and_taken(self):
        with self.assertRaises(errors.NoStep) as taken:
            raise errors.NoStep(4)
        self.assertEqual(taken.exception.place, 4)


if __name__ == "__main__":
    unittest.main()

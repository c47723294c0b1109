import unittest

from closepoints import errors

NAMES = (
    "NoPoints", "NoWay", "NoPlace", "NoBound", "NoNumber", "TooMany", "NoPaper", "NoText", "NoForm", "NoneYet",
)


class Errors(unittest.TestCase):
    def test_near_error_stands_under_value_error(self):
        self.assertTrue(issubclass(errors.NearError, ValueError))

    def test_each_class_stands_under_near_error(self):
        for name in NAMES:
            with self.subTest(name=name):
                kind = getattr(errors, name)
                self.assertTrue(issubclass(kind, errors.NearError))
                self.assertIsNot(kind, errors.NearError)

    def test_none_stands_under_another(self):
        for name in NAMES:
            for other in NAMES:
                if name != other:
                    with self.subTest(name=name, other=other):
                        self.assertFalse(issubclass(getattr(errors, name), getattr(errors, other)))

    def test_each_can_be_raised_and_taken_as_near_error(self):
        for name in NAMES:
            with self.subTest(name=name):
                with self.assertRaises(errors.NearError):
                    raise getattr(errors, name)("words")


if __name__ == "__main__":
    unittest.main()

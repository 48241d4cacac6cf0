import unittest

from waymusts import errors

NAMES = ("NotReached", "NoPaper", "TooMany", "NoSuch", "NoLane", "NoPlace", "NothingLeft", "NoRound", "NoText", "NoRow")


class Errors(unittest.TestCase):
    def test_each_is_a_way_error_and_a_value_error(self):
        self.assertTrue(issubclass(errors.WayError, ValueError))
        for name in NAMES:
            with self.subTest(name):
                kind = getattr(errors, name)
                self.assertTrue(issubclass(kind, errors.WayError))
                self.assertTrue(issubclass(kind, ValueError))
                self.assertIsNot(kind, errors.WayError)

    def test_none_stands_under_another(self):
        for name in NAMES:
            for other in NAMES:
                if name != other:
                    with self.subTest(f"{name} {other}"):
                        self.assertFalse(issubclass(getattr(errors, name), getattr(errors, other)))

    def test_each_can_be_raised_with_words(self):
        for name in NAMES + ("WayError",):
            with self.subTest(name):
                with self.assertRaises(getattr(errors, name)):
                    raise getattr(errors, name)("why")


if __name__ == "__main__":
    unittest.main()

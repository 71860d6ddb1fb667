import unittest

from wellkind.errors import BadKind, KindError, NoLine, NoPart, Stuck, Tired

OTHERS = [NoPart, BadKind, Stuck, Tired, NoLine]


class Errors(unittest.TestCase):
    def test_kind_error_is_a_value_error(self):
        self.assertTrue(issubclass(KindError, ValueError))

    def test_each_other_is_a_kind_error(self):
        for error in OTHERS:
            with self.subTest(error=error.__name__):
                self.assertTrue(issubclass(error, KindError))
                self.assertIsNot(error, KindError)

    def test_none_stands_under_another(self):
        for error in OTHERS:
            for other in OTHERS:
                if error.__name__ != other.__name__:
                    with self.subTest(error=error.__name__, other=other.__name__):
                        self.assertFalse(issubclass(error, other))

    def test_each_can_be_raised_with_words(self):
        for error in [KindError] + OTHERS:
            with self.subTest(error=error.__name__):
                with self.assertRaises(error):
                    raise error("words")


if __name__ == "__main__":
    unittest.main()

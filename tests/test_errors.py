"""The interface's classes of refusals."""

import unittest

from dipright import errors

NAMES = ("BadNumber", "BadFact", "BadText", "Late", "Taken", "NoFact", "NoDeed", "NoVein", "NoClaim", "OutOfGround")


class Refusals(unittest.TestCase):
    def test_the_class_of_any_refusal_stands_under_value_error(self):
        self.assertTrue(issubclass(errors.DiprightError, ValueError))
        self.assertIsNot(errors.DiprightError, ValueError)

    def test_each_stands_under_it(self):
        for name in NAMES:
            with self.subTest(name=name):
                kind = getattr(errors, name)
                self.assertTrue(issubclass(kind, errors.DiprightError))
                self.assertIsNot(kind, errors.DiprightError)
                self.assertEqual(kind.__name__, name)

    def test_none_stands_under_another_one(self):
        for name in NAMES:
            for other in NAMES:
                if name != other:
                    with self.subTest(name=name, other=other):
                        self.assertFalse(issubclass(getattr(errors, name), getattr(errors, other)))

    def test_each_can_be_raised_and_taken_by_its_name(self):
        for name in NAMES:
            kind = getattr(errors, name)
            for taken in (kind, errors.DiprightError, ValueError):
                with self.subTest(name=name, taken=taken.__name__):
                    with self.assertRaises(taken):
                        raise kind("refused")


if __name__ == "__main__":
    unittest.main()

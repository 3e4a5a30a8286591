"""The interface: the refusals."""

import unittest

from rankbounds import errors

NAMES = ["BadKeep", "BadReading", "BadTimes", "UnlikeCups", "NoPlace", "NoReadings", "NoCups"]


class Refusals(unittest.TestCase):
    def test_all_stand_in_the_file(self):
        for name in ["RankError"] + NAMES:
            with self.subTest(name):
                found = getattr(errors, name)
                self.assertIsInstance(found, type)
                self.assertEqual(found.__module__, "rankbounds.errors")
                self.assertEqual(found.__name__, name)

    def test_a_rank_error_is_a_value_error(self):
        self.assertTrue(issubclass(errors.RankError, ValueError))
        self.assertEqual(errors.RankError.__bases__, (ValueError,))

    def test_each_is_a_rank_error_and_a_value_error(self):
        for name in NAMES:
            with self.subTest(name):
                self.assertTrue(issubclass(getattr(errors, name), errors.RankError))
                self.assertTrue(issubclass(getattr(errors, name), ValueError))
                self.assertIsNot(getattr(errors, name), errors.RankError)

    def test_none_is_under_another(self):
        for name in NAMES:
            for other in NAMES:
                if name != other:
                    with self.subTest(name=name, other=other):
                        self.assertFalse(issubclass(getattr(errors, name), getattr(errors, other)))

    def test_each_is_caught_by_its_name_and_by_those_above(self):
        for name in NAMES:
            refusal = getattr(errors, name)
            for caught in (refusal, errors.RankError, ValueError):
                with self.subTest(name=name, caught=caught):
                    with self.assertRaises(caught):
                        raise refusal("why")

    def test_each_tells_its_words(self):
        for name in ["RankError"] + NAMES:
            with self.subTest(name):
                self.assertEqual(str(getattr(errors, name)("why")), "why")


if __name__ == "__main__":
    unittest.main()

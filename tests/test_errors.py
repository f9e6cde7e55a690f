import unittest

from mendread import errors
from mendread.errors import BadDeeds, BadRule, BadText, Endless, MendError, NoName


class Refusals(unittest.TestCase):
    def test_a_mend_error_is_a_value_error(self):
        self.assertTrue(issubclass(MendError, ValueError))

    def test_each_refusal_stands_straight_under_mend_error(self):
        for refusal in (BadRule, NoName, Endless, BadText, BadDeeds):
            with self.subTest(refusal=refusal):
                self.assertEqual(refusal.__bases__, (MendError,))

    def test_they_are_six_classes_of_this_file(self):
        names = ["MendError", "BadRule", "NoName", "Endless", "BadText", "BadDeeds"]
        classes = [getattr(errors, name) for name in names]
        self.assertEqual(len(set(classes)), 6)
        self.assertEqual([one.__module__ for one in classes], ["mendread.errors"] * 6)
        self.assertEqual([one.__name__ for one in classes], names)


if __name__ == "__main__":
    unittest.main()

"""The interface of longago/errors.py."""

import unittest

from longago import errors

NAMES = ["BadChain", "BadText", "NoSuch", "NotOne", "NeverOne", "NotOrdered", "TooMany"]


class Errors(unittest.TestCase):
    def test_long_error_is_straight_under_value_error(self):
        self.assertEqual(errors.LongError.__bases__, (ValueError,))

    def test_each_error_is_straight_under_long_error(self):
        for name in NAMES:
            with self.subTest(name):
                self.assertEqual(getattr(errors, name).__bases__, (errors.LongError,))

    def test_each_error_is_no_other_one(self):
        for one in NAMES:
            for other in NAMES:
                with self.subTest(one=one, other=other):
                    self.assertEqual(issubclass(getattr(errors, one), getattr(errors, other)), one == other)

    def test_each_class_is_defined_in_errors(self):
        for name in ["LongError"] + NAMES:
            self.assertEqual(getattr(errors, name).__module__, "longago.errors")

    def test_a_bad_text_has_its_row(self):
        self.assertEqual(errors.BadText(3).row, 3)
        self.assertEqual(errors.BadText(0).row, 0)

    def test_not_one_has_its_groups(self):
        self.assertEqual(errors.NotOne([[0], [1, 2]]).groups, [[0], [1, 2]])

    def test_not_one_keeps_a_copy_of_the_groups(self):
        groups = [[0], [1, 2]]
        error = errors.NotOne(groups)
        groups[1].append(3)
        groups.append([4])
        self.assertEqual(error.groups, [[0], [1, 2]])

    def test_never_one_has_its_pair(self):
        self.assertEqual(errors.NeverOne((1, 4)).pair, (1, 4))

    def test_not_ordered_has_its_move(self):
        self.assertEqual(errors.NotOrdered(7).move, 7)

    def test_the_values_stand_on_each_error_alone(self):
        for name, value in [("BadText", "row"), ("NotOne", "groups"), ("NeverOne", "pair"), ("NotOrdered", "move")]:
            with self.subTest(name):
                self.assertNotIn(value, vars(getattr(errors, name)))


if __name__ == "__main__":
    unittest.main()

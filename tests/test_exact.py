"""Fractions and equations, reckoned against Python's own fractions."""

import unittest
from fractions import Fraction
from random import Random

from longago.exact import fraction, solved


class Fractions(unittest.TestCase):
    def test_lowest_terms(self):
        for top in range(-12, 13):
            for bottom in list(range(-12, 0)) + list(range(1, 13)):
                same = Fraction(top, bottom)
                self.assertEqual(fraction(top, bottom), (same.numerator, same.denominator))

    def test_nought_and_one(self):
        self.assertEqual(fraction(0, 5), (0, 1))
        self.assertEqual(fraction(0, -5), (0, 1))
        self.assertEqual(fraction(99, 99), (1, 1))


class Solved(unittest.TestCase):
    def test_one_unknown(self):
        self.assertEqual(solved([[-4, 6]]), [(-3, 2)])

    def test_rows_that_must_be_exchanged(self):
        self.assertEqual(solved([[0, 1, 5], [2, 0, 3]]), [(3, 2), (5, 1)])
        self.assertEqual(solved([[0, 0, 1, 1], [0, 1, 0, 2], [1, 0, 0, 3]]), [(3, 1), (2, 1), (1, 1)])

    def test_the_equations_hold(self):
        dice = Random(5)
        for many in list(range(1, 8)) * 8 + [40]:
            # Numbers great on the diagonal leave just one solution; the turn makes rows be exchanged.
            rows = [[dice.randrange(-9, 10) * dice.randrange(2) for _ in range(many + 1)] for _ in range(many)]
            for at in range(many):
                rows[at][at] = 10 * many
            rows = rows[1:] + rows[:1]
            before = [list(row) for row in rows]
            shares = [Fraction(*told) for told in solved(rows)]
            self.assertEqual(rows, before)
            for row in rows:
                self.assertEqual(sum(by * share for by, share in zip(row, shares)), row[-1])


if __name__ == "__main__":
    unittest.main()

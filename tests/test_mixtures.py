"""Exact amounts in lowest terms, and mixtures of them by lot and stuff."""

import unittest
from fractions import Fraction

from batchworks.amounts import is_bounded, lowest, plus, rest_of, times
from batchworks.mixtures import is_mixture_bounded, joined, share_of, turned

MOST = 10 ** 18
# Lots 0 and 1, stuffs 0, 1 and 2.
MIXTURE = {(0, 0): (3, 1), (0, 1): (1, 2), (1, 0): (5, 6), (1, 2): (2, 3)}


class Amounts(unittest.TestCase):

    def test_lowest_terms(self):
        for top, bottom, expected in [(0, 1, (0, 1)), (0, 9, (0, 1)), (4, 2, (2, 1)), (6, 4, (3, 2)), (7, 5, (7, 5)),
                                      (1000, 1000, (1, 1)), (MOST, MOST * 3, (1, 3)), (2 ** 90, 2 ** 89, (2, 1))]:
            self.assertEqual(lowest(top, bottom), expected)

    def test_sums_products_and_rests(self):
        amounts = [lowest(top, bottom) for top in [0, 1, 5, 12, MOST] for bottom in [1, 3, 8, 999, MOST - 1]]
        for amount in amounts:
            for other in amounts:
                self.assertEqual(plus(amount, other), (Fraction(*amount) + Fraction(*other)).as_integer_ratio())
                self.assertEqual(times(amount, other), (Fraction(*amount) * Fraction(*other)).as_integer_ratio())
        for share in [(0, 1), (1, 1), (1, 3), (999, 1000)]:
            self.assertEqual(rest_of(share), (1 - Fraction(*share)).as_integer_ratio())

    def test_the_greatest_terms(self):
        for amount, right in [((MOST, 1), True), ((MOST + 1, 1), False), ((1, MOST), True), ((1, MOST + 1), False),
                              ((MOST, MOST - 1), True), ((MOST - 1, MOST), True), ((MOST + 1, MOST), False),
                              ((MOST, MOST + 1), False), ((0, 1), True), ((MOST * MOST, 3), False)]:
            self.assertEqual(is_bounded(amount), right, amount)
            self.assertEqual(is_mixture_bounded({(0, 0): (1, 2), (0, 1): amount, (1, 1): (3, 1)}), right, amount)
        self.assertTrue(is_mixture_bounded({}))


class Mixtures(unittest.TestCase):

    def setUp(self):
        self.before = dict(MIXTURE)

    def tearDown(self):
        self.assertEqual(MIXTURE, self.before)

    def test_two_are_joined(self):
        self.assertEqual(joined(MIXTURE, {(0, 1): (1, 3), (2, 0): (4, 1), (1, 0): (1, 6)}),
                         {(0, 0): (3, 1), (0, 1): (5, 6), (1, 0): (1, 1), (1, 2): (2, 3), (2, 0): (4, 1)})
        self.assertEqual(joined(MIXTURE, {}), MIXTURE)
        self.assertEqual(joined({}, MIXTURE), MIXTURE)
        self.assertEqual(joined({}, {}), {})

    def test_from_each_lot_and_stuff_the_same_share(self):
        self.assertEqual(share_of(MIXTURE, (2, 5)),
                         {(0, 0): (6, 5), (0, 1): (1, 5), (1, 0): (1, 3), (1, 2): (4, 15)})
        self.assertEqual(share_of(MIXTURE, (1, 1)), MIXTURE)
        self.assertEqual(share_of(MIXTURE, (0, 1)), {})

    def test_a_stuff_becomes_another_lot_by_lot(self):
        self.assertEqual(turned(MIXTURE, 0, 1, (1, 3)),
                         {(0, 0): (2, 1), (0, 1): (3, 2), (1, 0): (5, 9), (1, 1): (5, 18), (1, 2): (2, 3)})
        self.assertEqual(turned(MIXTURE, 0, 2, (1, 1)),
                         {(0, 1): (1, 2), (0, 2): (3, 1), (1, 2): (3, 2)})
        self.assertEqual(turned(MIXTURE, 3, 0, (1, 2)), MIXTURE)
        self.assertEqual(turned({}, 0, 1, (1, 2)), {})


if __name__ == "__main__":
    unittest.main()

"""Point 4: fractions in lowest terms, and reckoning with them."""

import fractions
import itertools
import random
import unittest
from math import gcd

from measurekind.errors import ByNought
from measurekind.fractions import added, fraction, is_less, lessened, product, quotient, raised

LARGE = 10 ** 20
HUGE = 7 ** 900
NOUGHT = (0, 1)
SOME = [
    (0, 1), (1, 1), (-1, 1), (2, 1), (-2, 1), (1, 2), (-1, 2), (2, 3), (-2, 3), (3, 2), (-3, 2), (5, 6), (-5, 6),
    (7, 12), (-7, 12), (LARGE, 1), (-LARGE, 1), (1, LARGE), (-1, LARGE), (LARGE + 1, LARGE), (LARGE, LARGE + 1),
    (-LARGE - 1, LARGE), (HUGE, 2 ** 1000), (-HUGE, 2 ** 1000), (2 ** 1000, HUGE),
]


def known(one):
    return fractions.Fraction(one[0], one[1])


class FractionTest(unittest.TestCase):
    def check_form(self, answer):
        self.assertIs(type(answer), tuple)
        self.assertEqual(len(answer), 2)
        self.assertIs(type(answer[0]), int)
        self.assertIs(type(answer[1]), int)
        self.assertGreaterEqual(answer[1], 1)
        self.assertEqual(gcd(answer[0], answer[1]), 1)

    def check(self, answer, awaited):
        self.check_form(answer)
        self.assertEqual(answer, awaited)

    def check_known(self, answer, awaited):
        self.check(answer, (awaited.numerator, awaited.denominator))


class Fraction(FractionTest):
    def test_lowest_terms_for_either_sign_on_both_sides(self):
        self.check(fraction(6, 4), (3, 2))
        self.check(fraction(-6, 4), (-3, 2))
        self.check(fraction(6, -4), (-3, 2))
        self.check(fraction(-6, -4), (3, 2))
        self.check(fraction(4, 2), (2, 1))
        self.check(fraction(4, -2), (-2, 1))
        self.check(fraction(-5, -5), (1, 1))

    def test_what_is_in_lowest_terms_stays(self):
        for one in SOME:
            self.check(fraction(*one), one)

    def test_nought(self):
        for below in (1, -1, 2, -12, LARGE, -HUGE):
            self.check(fraction(0, below), NOUGHT)

    def test_by_nought(self):
        for above in (0, 1, -1, 12, LARGE, -HUGE):
            with self.assertRaises(ByNought):
                fraction(above, 0)

    def test_numbers_of_any_size(self):
        self.check(fraction(6 * LARGE, 4 * LARGE), (3, 2))
        self.check(fraction(HUGE * 10, -HUGE * 4), (-5, 2))
        self.check(fraction(-HUGE, HUGE * HUGE), (-1, HUGE))

    def test_all_small_numbers(self):
        for above, below in itertools.product(range(-15, 16), range(-15, 16)):
            if below != 0:
                self.check_known(fraction(above, below), fractions.Fraction(above, below))


class Reckoned(FractionTest):
    def test_ordinary(self):
        self.check(added((1, 2), (1, 3)), (5, 6))
        self.check(lessened((1, 2), (1, 3)), (1, 6))
        self.check(lessened((1, 3), (1, 2)), (-1, 6))
        self.check(product((2, 3), (3, 4)), (1, 2))
        self.check(quotient((2, 3), (4, 3)), (1, 2))

    def test_answers_in_lowest_terms(self):
        self.check(added((1, 6), (1, 3)), (1, 2))
        self.check(added((1, 2), (1, 2)), (1, 1))
        self.check(added((1, 2), (-1, 2)), NOUGHT)
        self.check(lessened((5, 6), (1, 3)), (1, 2))
        self.check(lessened((5, 6), (5, 6)), NOUGHT)
        self.check(product((0, 1), (-5, 6)), NOUGHT)
        self.check(quotient((0, 1), (-5, 6)), NOUGHT)

    def test_signs_of_a_quotient(self):
        self.check(quotient((1, 2), (-3, 4)), (-2, 3))
        self.check(quotient((-1, 2), (-3, 4)), (2, 3))
        self.check(quotient((-1, 2), (3, 4)), (-2, 3))

    def test_a_quotient_by_nought(self):
        for one in SOME:
            with self.assertRaises(ByNought):
                quotient(one, NOUGHT)

    def test_each_of_some_with_each(self):
        for one, other in itertools.product(SOME, SOME):
            self.check_known(added(one, other), known(one) + known(other))
            self.check_known(lessened(one, other), known(one) - known(other))
            self.check_known(product(one, other), known(one) * known(other))
            if other != NOUGHT:
                self.check_known(quotient(one, other), known(one) / known(other))

    def test_many(self):
        chance = random.Random(4)
        for _ in range(2000):
            most = chance.choice([5, 100, LARGE, HUGE])
            one = fraction(chance.randrange(-most, most), chance.randrange(1, most))
            other = fraction(chance.randrange(-most, most), chance.randrange(1, most))
            self.check_known(added(one, other), known(one) + known(other))
            self.check_known(lessened(one, other), known(one) - known(other))
            self.check_known(product(one, other), known(one) * known(other))
            self.assertIs(is_less(one, other), known(one) < known(other))


class Raised(FractionTest):
    def test_ordinary(self):
        self.check(raised((2, 3), 1), (2, 3))
        self.check(raised((2, 3), 2), (4, 9))
        self.check(raised((2, 3), 5), (32, 243))
        self.check(raised((2, 3), -1), (3, 2))
        self.check(raised((2, 3), -3), (27, 8))

    def test_to_nought(self):
        for one in SOME:
            self.check(raised(one, 0), (1, 1))

    def test_nought(self):
        for n in (1, 2, 7, LARGE):
            self.check(raised(NOUGHT, n), NOUGHT)

    def test_nought_below_nought(self):
        for n in (-1, -2, -7, -LARGE):
            with self.assertRaises(ByNought):
                raised(NOUGHT, n)

    def test_negative_ones(self):
        self.check(raised((-2, 3), 2), (4, 9))
        self.check(raised((-2, 3), 3), (-8, 27))
        self.check(raised((-2, 3), -1), (-3, 2))
        self.check(raised((-2, 3), -2), (9, 4))
        self.check(raised((-2, 3), -3), (-27, 8))
        self.check(raised((-5, 1), -1), (-1, 5))
        self.check(raised((-1, 5), -1), (-5, 1))

    def test_all_small_powers(self):
        for one, n in itertools.product(SOME, range(-20, 21)):
            if one != NOUGHT or n >= 0:
                self.check_known(raised(one, n), known(one) ** n)

    def test_as_its_product_with_itself(self):
        for one in SOME:
            awaited = (1, 1)
            for n in range(12):
                self.check(raised(one, n), awaited)
                if one != NOUGHT:
                    self.check(raised(one, -n), quotient((1, 1), awaited))
                awaited = product(awaited, one)

    def test_large_powers(self):
        self.check(raised((1, 1), LARGE), (1, 1))
        self.check(raised((1, 1), -LARGE), (1, 1))
        self.check(raised((-1, 1), LARGE), (1, 1))
        self.check(raised((-1, 1), -LARGE), (1, 1))
        self.check(raised((-1, 1), LARGE + 1), (-1, 1))
        self.check(raised((-1, 1), -LARGE - 1), (-1, 1))
        self.check(raised((2, 3), 5000), (2 ** 5000, 3 ** 5000))
        self.check(raised((-2, 3), -5001), (-(3 ** 5001), 2 ** 5001))


class IsLess(unittest.TestCase):
    def test_ordinary(self):
        self.assertIs(is_less((1, 3), (1, 2)), True)
        self.assertIs(is_less((1, 2), (1, 3)), False)
        self.assertIs(is_less((2, 1), (5, 2)), True)

    def test_alike_ones(self):
        for one in SOME:
            self.assertIs(is_less(one, one), False)

    def test_unlike_signs(self):
        self.assertIs(is_less((-1, 2), (1, 3)), True)
        self.assertIs(is_less((1, 3), (-1, 2)), False)
        self.assertIs(is_less((-1, 2), NOUGHT), True)
        self.assertIs(is_less(NOUGHT, (-1, 2)), False)
        self.assertIs(is_less(NOUGHT, (1, 2)), True)
        self.assertIs(is_less((1, 2), NOUGHT), False)

    def test_both_below_nought(self):
        self.assertIs(is_less((-1, 2), (-1, 3)), True)
        self.assertIs(is_less((-1, 3), (-1, 2)), False)

    def test_that_differ_by_little(self):
        self.assertIs(is_less((LARGE, LARGE + 1), (LARGE + 1, LARGE + 2)), True)
        self.assertIs(is_less((LARGE + 1, LARGE + 2), (LARGE, LARGE + 1)), False)

    def test_each_of_some_with_each(self):
        for one, other in itertools.product(SOME, SOME):
            self.assertIs(is_less(one, other), known(one) < known(other))


if __name__ == "__main__":
    unittest.main()

"""Point 7: what reckonings come to."""

import copy
import fractions
import itertools
import random
import unittest

from makings import METRE, NOUGHT, PLAIN, TWOS, chance_reckoning, inp, number, walk
from measurekind.errors import ByNought, NoValue
from measurekind.reckonings import inputs
from measurekind.worths import worth

BROKEN = ("over", PLAIN, NOUGHT)
A, B, C, D = [inp(name) for name in "abcd"]
SOME = [(0, 1), (1, 1), (-1, 1), (1, 2), (-2, 3), (7, 3), (10 ** 12 + 1, 10 ** 12), (-(3 ** 200), 2 ** 300)]


def awaited_worth(reckoning, values):
    """What it comes to by fractions.Fraction: None where something is divided by nought."""
    kind = reckoning[0]
    if kind == "is":
        return fractions.Fraction(*reckoning[1])
    if kind == "nought":
        return fractions.Fraction(0)
    if kind == "input":
        return fractions.Fraction(*values[reckoning[1]])
    one = awaited_worth(reckoning[1], values)
    if kind == "power":
        return None if one is None or (one == 0 and reckoning[2] < 0) else one ** reckoning[2]
    other = awaited_worth(reckoning[2], values)
    if one is None or other is None:
        return None
    if kind == "less":
        return awaited_worth(reckoning[3 if one < other else 4], values)
    if kind == "over":
        return one / other if other else None
    return {"plus": one + other, "minus": one - other, "times": one * other}[kind]


class WorthTest(unittest.TestCase):
    def check(self, reckoning, values, awaited):
        told = worth(reckoning, values)
        self.assertEqual(told, awaited)
        self.assertIs(type(told), tuple)
        self.assertEqual([type(whole) for whole in told], [int, int])

    def check_error(self, error, reckoning, values):
        with self.assertRaises(error) as caught:
            worth(reckoning, values)
        self.assertIs(type(caught.exception), error)


class Forms(WorthTest):
    def test_is(self):
        self.check(number(-3, 4, (("m", 2),)), {}, (-3, 4))
        self.check(number(0), {}, (0, 1))

    def test_is_beyond_the_bounds(self):
        self.check(("is", (10 ** 50 + 1, 10 ** 50), ()), {}, (10 ** 50 + 1, 10 ** 50))

    def test_nought(self):
        self.check(NOUGHT, {}, (0, 1))

    def test_input(self):
        for one in SOME:
            self.check(A, {"a": one, "b": (9, 1)}, one)

    def test_two(self):
        values = {"a": (5, 6), "b": (1, 3)}
        self.check(("plus", A, B), values, (7, 6))
        self.check(("minus", A, B), values, (1, 2))
        self.check(("minus", B, A), values, (-1, 2))
        self.check(("times", A, B), values, (5, 18))
        self.check(("over", A, B), values, (5, 2))
        self.check(("over", B, A), values, (2, 5))

    def test_the_same_of_both(self):
        values = {"a": (-5, 6)}
        self.check(("plus", A, A), values, (-5, 3))
        self.check(("minus", A, A), values, (0, 1))
        self.check(("times", A, A), values, (25, 36))
        self.check(("over", A, A), values, (1, 1))

    def test_power(self):
        for n, awaited in ((-4, (81, 16)), (-1, (-3, 2)), (0, (1, 1)), (1, (-2, 3)), (3, (-8, 27)), (4, (16, 81))):
            self.check(("power", A, n), {"a": (-2, 3)}, awaited)

    def test_less(self):
        reckoning = ("less", A, B, C, D)
        values = {"c": (3, 1), "d": (4, 1)}
        self.check(reckoning, {"a": (1, 3), "b": (1, 2), **values}, (3, 1))
        self.check(reckoning, {"a": (1, 2), "b": (1, 3), **values}, (4, 1))
        self.check(reckoning, {"a": (1, 2), "b": (1, 2), **values}, (4, 1))
        self.check(reckoning, {"a": (-1, 2), "b": (-1, 3), **values}, (3, 1))
        self.check(reckoning, {"a": (-1, 1), "b": (0, 1), **values}, (3, 1))

    def test_each_of_some_with_each(self):
        for one, other in itertools.product(SOME, SOME):
            values = {"a": one, "b": other}
            for kind in TWOS:
                self.check_by_known((kind, A, B), values)
            self.check_by_known(("less", A, B, ("plus", A, PLAIN), ("minus", PLAIN, B)), values)

    def check_by_known(self, reckoning, values):
        awaited = awaited_worth(reckoning, values)
        if awaited is None:
            self.check_error(ByNought, reckoning, values)
        else:
            self.check(reckoning, values, (awaited.numerator, awaited.denominator))

    def test_measures_do_not_matter(self):
        self.check(("plus", METRE, PLAIN), {}, (2, 1))
        self.check(("less", METRE, number(2), METRE, PLAIN), {}, (1, 1))

    def test_many(self):
        chance = random.Random(7)
        met = {ByNought: 0, tuple: 0}
        for _ in range(2500):
            told = chance_reckoning(chance, chance.randrange(1, 7))
            values = {name: chance.choice(SOME[:6]) for name in ("a", "b", "c", "m", "s")}
            self.check_by_known(told, values)
            met[ByNought if awaited_worth(told, values) is None else tuple] += 1
        self.assertGreater(min(met.values()), 500)


class Values(WorthTest):
    def test_without_a_value(self):
        self.check_error(NoValue, A, {})
        self.check_error(NoValue, A, {"b": (1, 1), "aa": (1, 1), "": (1, 1), "=a": (1, 1)})
        for kind in TWOS:
            self.check_error(NoValue, (kind, A, B), {"a": (1, 1)})
            self.check_error(NoValue, (kind, A, B), {"b": (1, 1)})
        for n in (-1, 0, 1):
            self.check_error(NoValue, ("power", A, n), {})

    def test_each_part_of_a_less(self):
        for values in ({"a": (1, 1), "b": (2, 1)}, {"a": (2, 1), "b": (1, 1)}):
            values.update({"c": (3, 1), "d": (4, 1)})
            worth(("less", A, B, C, D), values)
            for name in "abcd":
                left = {other: value for other, value in values.items() if other != name}
                self.check_error(NoValue, ("less", A, B, C, D), left)

    def test_deep_in_a_part_that_is_not_chosen(self):
        deep = ("plus", PLAIN, ("power", ("less", PLAIN, PLAIN, ("times", NOUGHT, A), PLAIN), 2))
        self.check_error(NoValue, ("less", number(1), number(2), PLAIN, deep), {})
        self.check_error(NoValue, ("less", number(2), number(1), deep, PLAIN), {})
        self.check(("less", number(2), number(1), deep, PLAIN), {"a": (1, 1)}, (1, 1))

    def test_ahead_of_a_division_by_nought(self):
        for kind in TWOS:
            self.check_error(NoValue, (kind, BROKEN, A), {})
            self.check_error(NoValue, (kind, A, BROKEN), {})
        self.check_error(NoValue, ("over", A, NOUGHT), {})
        self.check_error(NoValue, ("less", BROKEN, BROKEN, BROKEN, A), {})
        self.check_error(NoValue, ("less", BROKEN, PLAIN, A, PLAIN), {})
        self.check_error(NoValue, ("less", PLAIN, BROKEN, PLAIN, A), {})
        self.check_error(NoValue, ("plus", ("power", NOUGHT, -1), ("times", NOUGHT, A)), {})

    def test_one_of_many(self):
        chance = random.Random(77)
        for _ in range(500):
            told = chance_reckoning(chance, 5)
            values = {name: (0, 1) for name in inputs(told)}
            if values:
                del values[chance.choice(sorted(values))]
                self.check_error(NoValue, told, values)

    def test_nought_is_a_value(self):
        self.check(("plus", A, B), {"a": (0, 1), "b": (0, 1)}, (0, 1))

    def test_more_values_than_inputs(self):
        self.check(("plus", A, PLAIN), {"a": (1, 2), "b": (5, 1), "m": (7, 1)}, (3, 2))
        self.check(METRE, {"m": (7, 1)}, (1, 1))

    def test_an_input_with_the_name_of_a_base(self):
        self.check(("times", inp("m"), number(2, 1, (("m", 1),))), {"m": (7, 1)}, (14, 1))
        self.check_error(NoValue, ("times", inp("m"), METRE), {})

    def test_left_alone(self):
        values = {"b": (2, 3), "a": (0, 1), "x": (1, 1)}
        ahead = copy.deepcopy(values)
        worth(("less", A, B, ("plus", A, B), ("power", B, -2)), values)
        self.check_error(ByNought, ("over", B, A), values)
        self.check_error(NoValue, ("over", B, C), values)
        self.assertEqual(list(values.items()), list(ahead.items()))


class Noughts(WorthTest):
    def test_over(self):
        self.check_error(ByNought, BROKEN, {})
        self.check_error(ByNought, ("over", NOUGHT, NOUGHT), {})
        self.check_error(ByNought, ("over", A, ("minus", B, B)), {"a": (1, 1), "b": (2, 3)})
        self.check_error(ByNought, ("over", METRE, number(0)), {})
        self.check_error(ByNought, ("over", METRE, A), {"a": (0, 1)})
        self.check(("over", NOUGHT, METRE), {}, (0, 1))

    def test_nought_raised(self):
        for n in (-4, -3, -2, -1):
            self.check_error(ByNought, ("power", NOUGHT, n), {})
            self.check_error(ByNought, ("power", A, n), {"a": (0, 1)})
        self.check(("power", NOUGHT, 0), {}, (1, 1))
        self.check(("power", A, 0), {"a": (0, 1)}, (1, 1))
        for n in (1, 2, 3, 4):
            self.check(("power", NOUGHT, n), {}, (0, 1))

    def test_a_power_of_what_is_divided_by_nought(self):
        for n in range(-4, 5):
            self.check_error(ByNought, ("power", BROKEN, n), {})

    def test_in_each_part_that_is_worked_out(self):
        for kind in TWOS:
            self.check_error(ByNought, (kind, BROKEN, METRE), {})
            self.check_error(ByNought, (kind, METRE, BROKEN), {})
        self.check_error(ByNought, ("times", NOUGHT, BROKEN), {})
        self.check_error(ByNought, ("times", ("power", NOUGHT, -1), NOUGHT), {})

    def test_in_the_two_that_are_compared(self):
        self.check_error(ByNought, ("less", BROKEN, PLAIN, PLAIN, PLAIN), {})
        self.check_error(ByNought, ("less", PLAIN, BROKEN, PLAIN, PLAIN), {})
        self.check_error(ByNought, ("less", PLAIN, ("power", NOUGHT, -2), PLAIN, PLAIN), {})

    def test_in_the_part_chosen(self):
        self.check_error(ByNought, ("less", number(1), number(2), BROKEN, PLAIN), {})
        self.check_error(ByNought, ("less", number(2), number(1), PLAIN, BROKEN), {})
        self.check_error(ByNought, ("less", number(1), number(1), PLAIN, BROKEN), {})

    def test_not_in_the_part_that_is_not_chosen(self):
        self.check(("less", number(1), number(2), number(5), BROKEN), {}, (5, 1))
        self.check(("less", number(2), number(1), BROKEN, number(5)), {}, (5, 1))
        self.check(("less", number(1), number(1), ("plus", PLAIN, BROKEN), number(5)), {}, (5, 1))
        self.check(("less", NOUGHT, A, ("over", PLAIN, A), NOUGHT), {"a": (0, 1)}, (0, 1))
        self.check(("less", NOUGHT, A, ("over", PLAIN, A), NOUGHT), {"a": (2, 1)}, (1, 2))

    def test_a_less_in_a_part_that_is_not_chosen(self):
        unchosen = ("less", BROKEN, BROKEN, BROKEN, BROKEN)
        self.check(("less", number(1), number(2), PLAIN, unchosen), {}, (1, 1))
        self.check_error(ByNought, ("less", number(2), number(1), PLAIN, unchosen), {})


class AnySize(WorthTest):
    def test_a_power_within_a_power(self):
        for one, other in itertools.product(range(-4, 5), repeat=2):
            told = ("power", ("plus", ("power", A, one), NOUGHT), other)
            known = (fractions.Fraction(-3, 2) ** one) ** other
            self.check(told, {"a": (-3, 2)}, (known.numerator, known.denominator))

    def test_numbers_of_any_size(self):
        large = 10 ** 400 + 1
        self.check(("power", ("power", A, 4), -4), {"a": (-large, 2)}, (2 ** 16, large ** 16))
        self.check(("plus", A, B), {"a": (large, 1), "b": (1, large)}, (large * large + 1, large))
        self.check(("less", A, B, C, D), {
            "a": (large, large + 1), "b": (large + 1, large + 2), "c": (1, large), "d": (2, large)}, (1, large))

    def test_beyond_the_limits(self):
        self.check(("power", number(2), 70), {}, (2 ** 70, 1))
        self.check(("power", ("power", ("power", ("power", number(2), 5), 3), 2), -1), {}, (1, 2 ** 30))
        told = inp("abcdefghijk")
        for _ in range(60):
            told = ("plus", told, PLAIN)
        self.check(told, {"abcdefghijk": (1, 2)}, (121, 2))
        self.assertEqual(len(list(walk(told))), 121)


if __name__ == "__main__":
    unittest.main()

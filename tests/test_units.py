"""Points 13 and 14: scales, reckonings and values told in other units."""

import copy
import fractions
import random
import time
import unittest

from makings import (
    METRE, NOUGHT, PLAIN, SECOND, TWOS, chance_fitting, chance_measure, chance_reckoning, inp, number, paired, walk,
    within,
)
from measurekind.errors import ByNought, NoFit, NoValue
from measurekind.fitting import measure_by
from measurekind.kinds import widest
from measurekind.reckonings import inputs, is_reckoning
from measurekind.units import rescaled, retold, scale
from measurekind.worths import worth

A, B, C, D = [inp(name) for name in "abcd"]
M, S = (("m", 1),), (("s", 1),)
SPEED = (("m", 1), ("s", -1))
LARGE = 10 ** 40
INCH = (127, 5000)
SOON = 10


def known_scale(measure, units):
    told = fractions.Fraction(1)
    for letter, many in measure:
        told *= fractions.Fraction(*units[letter]) ** many
    return told


def pair(known):
    return (known.numerator, known.denominator)


def known_retold(reckoning, units):
    """What point 13 says of retold, apart from the program."""
    if reckoning[0] == "is":
        return number(fractions.Fraction(*reckoning[1]) * known_scale(reckoning[2], units), 1, reckoning[2])
    inner = [known_retold(part, units) for part in within(reckoning)]
    return (reckoning[0], *inner, *reckoning[1 + len(inner):])


def chance_fraction(chance, most, least):
    known = fractions.Fraction(chance.randint(least, most), chance.randint(1, most))
    return pair(known)


class UnitsTest(unittest.TestCase):
    def check(self, told, awaited):
        self.assertEqual(told, awaited)
        self.assertIs(type(told), tuple)
        self.assertEqual([type(part) for part in told], [int, int])

    def check_no_value(self, function, *given):
        with self.assertRaises(NoValue) as caught:
            function(*given)
        self.assertIs(type(caught.exception), NoValue)


class Scale(UnitsTest):
    def test_of_no_letters(self):
        self.check(scale((), {}), (1, 1))
        self.check(scale((), {"m": (5, 3)}), (1, 1))

    def test_one_letter(self):
        self.check(scale(M, {"m": (1000, 1)}), (1000, 1))
        self.check(scale(M, {"m": INCH, "s": (60, 1)}), INCH)
        self.check(scale((("m", 2),), {"m": (2, 3)}), (4, 9))
        self.check(scale((("m", -2),), {"m": (2, 3)}), (9, 4))
        self.check(scale((("m", 20),), {"m": (1, 10)}), (1, 10 ** 20))

    def test_many_letters(self):
        units = {"m": (1000, 1), "s": (3600, 1), "kg": (1, 2)}
        self.check(scale(SPEED, units), (5, 18))
        self.check(scale((("kg", 1), ("m", 2), ("s", -3)), units), pair(fractions.Fraction(10 ** 6, 2 * 3600 ** 3)))
        letters = "abcdefghijklmnopqrstuvwxyz"
        units = {letter: (place + 2, place + 1) for place, letter in enumerate(letters)}
        self.check(scale(tuple((letter, 1) for letter in letters), units), (27, 1))
        self.check(scale(tuple((letter, -1) for letter in letters), units), (1, 27))

    def test_letters_of_all_kinds(self):
        units = {"00": (2, 1), "=m": (3, 1), "?0": (5, 1), "m": (7, 1), "?10": (1, 11)}
        self.check(scale((("00", 1), ("=m", -1), ("?0", 2), ("?10", -1), ("m", 1)), units), (2 * 25 * 11 * 7, 3))

    def test_units_that_do_nothing(self):
        self.check(scale((("m", 10 ** 30), ("s", -(10 ** 30))), {"m": (1, 1), "s": (1, 1)}), (1, 1))

    def test_units_of_large_numbers(self):
        units = {"m": (LARGE + 1, LARGE), "s": (LARGE, LARGE + 1)}
        self.check(scale((("m", 1), ("s", 1)), units), (1, 1))
        self.check(scale((("m", 3), ("s", -2)), units), ((LARGE + 1) ** 5, LARGE ** 5))

    def test_a_letter_without_a_unit(self):
        self.check_no_value(scale, M, {})
        self.check_no_value(scale, SPEED, {"m": (2, 1)})
        self.check_no_value(scale, SPEED, {"s": (2, 1), "=m": (2, 1)})
        self.check_no_value(scale, (("?0", 1),), {"0": (1, 1), "?": (1, 1), "?00": (1, 1)})
        self.check_no_value(scale, (("m", 10 ** 30), ("s", 1)), {"m": (2, 3)})

    def test_many(self):
        chance = random.Random(13)
        for most in (9, 1000, LARGE):
            for _ in range(100):
                units = {letter: chance_fraction(chance, most, 1) for letter in "kms"}
                measure = chance_measure(chance, 3)
                self.check(scale(measure, units), pair(known_scale(measure, units)))


class Retold(UnitsTest):
    UNITS = {"m": (1000, 1), "s": (1, 60)}

    def test_an_is(self):
        self.assertEqual(retold(METRE, self.UNITS), ("is", (1000, 1), M))
        self.assertEqual(retold(("is", (-3, 7), SPEED), self.UNITS), ("is", (-180000, 7), SPEED))
        self.assertEqual(retold(number(5, 2), {}), number(5, 2))
        self.assertEqual(retold(number(0, 1, M), self.UNITS), ("is", (0, 1), M))

    def test_what_has_no_number(self):
        for told in (NOUGHT, A, ("power", A, -4), ("less", A, NOUGHT, B, C)):
            self.assertEqual(retold(told, {}), told)

    def test_each_form(self):
        metre, second = ("is", (1000, 1), M), ("is", (1, 60), S)
        for kind in TWOS:
            self.assertEqual(retold((kind, METRE, SECOND), self.UNITS), (kind, metre, second))
            self.assertEqual(retold((kind, A, (kind, SECOND, NOUGHT)), self.UNITS), (kind, A, (kind, second, NOUGHT)))
        for n in range(-4, 5):
            self.assertEqual(retold(("power", METRE, n), self.UNITS), ("power", metre, n))
        self.assertEqual(
            retold(("less", METRE, SECOND, PLAIN, ("minus", A, METRE)), self.UNITS),
            ("less", metre, second, PLAIN, ("minus", A, metre)))

    def test_numbers_beyond_the_bounds(self):
        wide = tuple((letter, 20) for letter in "abcdef")
        units = {letter: (LARGE, 1) for letter in "abcdef"}
        told = retold(("is", (-(10 ** 9), 999999999), wide), units)
        self.assertEqual(told, ("is", (-(10 ** 9) * LARGE ** 120, 999999999), wide))
        self.assertEqual(worth(told, {}), told[1])
        self.assertEqual(worth(("power", ("plus", told, NOUGHT), -2), {}), (999999999 ** 2, 10 ** 18 * LARGE ** 240))

    def test_a_letter_without_a_unit(self):
        self.check_no_value(retold, METRE, {})
        self.check_no_value(retold, ("is", (0, 1), M), {"s": (1, 1)})
        self.check_no_value(retold, ("times", A, ("plus", METRE, ("is", (1, 1), SPEED))), {"m": (1, 1)})
        self.check_no_value(retold, ("less", PLAIN, PLAIN, PLAIN, SECOND), {"m": (1, 1)})
        self.check_no_value(retold, ("power", METRE, 0), {"a": (1, 1)})

    def test_many(self):
        chance = random.Random(131)
        for _ in range(400):
            told = chance_reckoning(chance, chance.randrange(1, 7))
            units = {letter: chance_fraction(chance, chance.choice([9, LARGE]), 1) for letter in "kms"}
            self.assertEqual(retold(told, units), known_retold(told, units))


class Rescaled(UnitsTest):
    UNITS = {"m": (1000, 1), "s": (1, 60)}

    def test_ordinary(self):
        values = {"a": (1, 2), "b": (-3, 7), "c": (0, 1)}
        told = rescaled(values, {"a": M, "b": SPEED, "c": S}, self.UNITS)
        self.assertIs(type(told), dict)
        self.assertEqual(told, {"a": (500, 1), "b": (-180000, 7), "c": (0, 1)})
        for one in told.values():
            self.check(one, one)

    def test_no_names(self):
        self.assertEqual(rescaled({}, {}, {}), {})
        self.assertEqual(rescaled({"a": (1, 2)}, {}, self.UNITS), {})

    def test_fewer_names_than_values(self):
        self.assertEqual(rescaled({"a": (1, 2), "b": (1, 1), "zz": (3, 1)}, {"b": S}, self.UNITS), {"b": (1, 60)})

    def test_plain_measures_need_no_units(self):
        self.assertEqual(rescaled({"a": (1, 2)}, {"a": ()}, {}), {"a": (1, 2)})

    def test_a_name_without_a_value(self):
        self.check_no_value(rescaled, {}, {"a": ()}, {})
        self.check_no_value(rescaled, {"a": (1, 2)}, {"a": M, "b": M}, self.UNITS)
        self.check_no_value(rescaled, {"m": (1, 2)}, {"a": M}, self.UNITS)

    def test_a_letter_without_a_unit(self):
        self.check_no_value(rescaled, {"a": (1, 2)}, {"a": M}, {})
        self.check_no_value(rescaled, {"a": (0, 1), "b": (1, 1)}, {"a": (("m", 1), ("x", 1)), "b": ()}, self.UNITS)

    def test_measures_with_unknowns(self):
        units = {"?0": (2, 3), "m": (5, 1)}
        self.assertEqual(rescaled({"a": (1, 2)}, {"a": (("?0", -2), ("m", 1))}, units), {"a": (45, 8)})


class LeftAlone(UnitsTest):
    def test_nothing_is_changed(self):
        units = {"s": (1, 60), "m": (1000, 1)}
        values, names = {"b": (1, 3), "a": (2, 1), "x": (1, 1)}, {"b": SPEED, "a": M}
        told = ("less", A, METRE, ("times", B, ("power", SECOND, 2)), NOUGHT)
        ahead = copy.deepcopy((list(units.items()), list(values.items()), list(names.items()), told))
        for _ in range(2):
            scale(SPEED, units)
            retold(told, units)
            rescaled(values, names, units)
            self.check_no_value(scale, (("k", 1),), units)
            self.check_no_value(rescaled, {}, names, units)
            self.assertEqual((list(units.items()), list(values.items()), list(names.items()), told), ahead)

    def test_what_is_told_is_the_askers_own(self):
        values, names = {"a": (1, 2)}, {"a": ()}
        first, second = rescaled(values, names, {}), rescaled(values, names, {})
        first["b"] = (1, 1)
        self.assertEqual((second, values), ({"a": (1, 2)}, {"a": (1, 2)}))


class OtherUnits(UnitsTest):
    """Point 14: what a reckoning comes to changes by the scale of its measure, and by no other."""

    def worth_or_none(self, reckoning, values):
        try:
            return worth(reckoning, values)
        except ByNought:
            return None

    def check_changes(self, reckoning, names, noughts, values, units):
        """Whether it comes to a number."""
        ahead = self.worth_or_none(reckoning, values)
        told = self.worth_or_none(retold(reckoning, units), rescaled(values, names, units))
        if ahead is None or told is None:
            self.assertEqual(told, ahead)
            return False
        measure = measure_by(reckoning, names, noughts)
        self.check(told, pair(fractions.Fraction(*ahead) * known_scale(measure, units)))
        self.assertEqual(scale(measure, units), pair(known_scale(measure, units)))
        return True

    def units(self, chance, letters):
        most = chance.choice([9, 9, LARGE])
        return {letter: chance_fraction(chance, most, 1) for letter in letters}

    def values(self, chance, names):
        return {name: chance_fraction(chance, 5, -5) for name in names}

    def test_ordinary(self):
        told = ("plus", ("times", A, B), METRE)
        names, units = {"a": SPEED, "b": S}, {"m": (1, 1000), "s": (1, 60)}
        values = {"a": (3, 1), "b": (2, 1)}
        self.assertEqual(rescaled(values, names, units), {"a": (9, 50), "b": (1, 30)})
        self.assertEqual(worth(retold(told, units), rescaled(values, names, units)), (7, 1000))
        self.assertTrue(self.check_changes(told, names, [], values, units))

    def test_by_nought_in_both(self):
        told = ("over", METRE, ("minus", A, METRE))
        units = {"m": (3, 7)}
        self.assertFalse(self.check_changes(told, {"a": M}, [], {"a": (1, 1)}, units))
        self.assertTrue(self.check_changes(told, {"a": M}, [], {"a": (2, 1)}, units))
        self.assertFalse(self.check_changes(("power", NOUGHT, -1), {}, [M], {}, units))
        self.assertTrue(self.check_changes(("power", NOUGHT, 0), {}, [M], {}, units))

    def test_a_less_chooses_the_same(self):
        told = ("less", A, METRE, B, SECOND)
        names, units = {"a": M, "b": S}, {"m": (1, LARGE), "s": (LARGE, 1)}
        for a in ((1, 1), (1, 2), (3, 2), (0, 1), (-5, 1), (LARGE, 1)):
            self.assertTrue(self.check_changes(told, names, [], {"a": a, "b": (7, 1)}, units))

    def test_a_choice_that_does_not_fit_is_told_by_no_scale(self):
        told = ("plus", METRE, A)
        units = {"m": (1000, 1), "s": (1, 1)}
        self.assertEqual(worth(retold(told, units), rescaled({"a": (1, 1)}, {"a": S}, units)), (1001, 1))

    def test_by_choices_that_fit(self):
        chance = random.Random(14)
        met = {True: 0, False: 0}
        for _ in range(600):
            names, noughts = {}, []
            told = chance_fitting(chance, chance.randrange(1, 6), chance_measure(chance, 3), names, noughts)
            values, units = self.values(chance, names), self.units(chance, "kms")
            met[self.check_changes(told, names, noughts, values, units)] += 1
        self.assertGreater(min(met.values()), 50)

    def test_by_widest_with_any_units_for_its_unknowns(self):
        chance = random.Random(141)
        met = {True: 0, False: 0}
        open_ones = 0
        for turn in range(1200):
            if turn % 2:
                told = chance_fitting(chance, chance.randrange(1, 6), chance_measure(chance, 3), {}, [])
            else:
                told = chance_reckoning(chance, chance.randrange(1, 5))
            try:
                names, noughts, whole, unknowns = widest(told)
            except NoFit:
                continue
            self.assertEqual(whole, measure_by(told, names, noughts))
            values, units = self.values(chance, inputs(told)), self.units(chance, ["k", "m", "s", *unknowns])
            met[self.check_changes(told, names, noughts, values, units)] += 1
            open_ones += len(unknowns) > 0
        self.assertGreater(min(*met.values(), open_ones), 100)


class Soon(UnitsTest):
    def timed(self, reckoning, units):
        self.assertTrue(is_reckoning(reckoning))
        begun = time.process_time()
        told = retold(reckoning, units)
        worth(told, {})
        self.assertLess(time.process_time() - begun, SOON)

    def test_a_hundred_in_all(self):
        wide = tuple((letter, 20) for letter in "abcdef")
        large = [("power", ("power", number(10 ** 9 - place, 10 ** 9, wide), 4), -4) for place in range(1, 12)]
        for kind in TWOS:
            told = paired(kind, large + [number(place, 999999937, wide) for place in range(1, 24)])
            self.assertEqual(len(list(walk(told))), 89)
            for unit in (INCH, (1, 10 ** 12), (10 ** 12, 1), (10 ** 9 + 7, 10 ** 9 + 9)):
                self.timed(told, {letter: unit for letter in "abcdef"})


if __name__ == "__main__":
    unittest.main()

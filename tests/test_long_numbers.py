"""Numbers too long to be written in figures: each answer and each error comes all the same."""

import unittest

from makings import METRE, NOUGHT, PLAIN, inp, made_measure
from measurekind.errors import ByNought, NoFit, NoValue, Unlike
from measurekind.fitting import alike, measure_by, measure_of
from measurekind.fractions import added, fraction, is_less, lessened, product, quotient, raised
from measurekind.kinds import widest
from measurekind.measures import filled, over, power, times
from measurekind.reckonings import inputs, is_reckoning, noughts
from measurekind.solving import solved
from measurekind.units import rescaled, retold, scale
from measurekind.worths import worth
from solving_checks import SolvingTest

# Python itself refuses to write whole numbers of more than 4300 figures.
LONG = 10 ** 5000
A, B, C = inp("a"), inp("b"), inp("c")
FAR, NEAR = (("m", LONG),), (("m", LONG + 1),)
BACK = (("m", -LONG), ("s", 1))


class LongNumbers(SolvingTest):
    def setUp(self):
        with self.assertRaises(ValueError):
            str(LONG)

    def check_true(self, holds):
        # Not assertEqual: it writes what differs.
        self.assertTrue(holds)

    def check_error(self, error, function, *given):
        with self.assertRaises(ValueError) as caught:
            function(*given)
        self.assertIs(type(caught.exception), error)
        self.assertIsInstance(str(caught.exception), str)
        self.assertIsInstance(repr(caught.exception), str)
        return caught.exception


class Unalike(LongNumbers):
    """Point 8: Unlike, whatever the size of the powers."""

    def check_unlike(self, reckoning, names, noughts=()):
        self.check_error(Unlike, measure_by, reckoning, names, list(noughts))

    def test_plus_and_minus(self):
        for kind in ("plus", "minus"):
            for one, other in ((FAR, ()), ((), FAR), (FAR, NEAR), (BACK, FAR), (FAR, (("m", -LONG),))):
                self.check_unlike((kind, A, B), {"a": one, "b": other})
                self.check_unlike((kind, A, NOUGHT), {"a": one}, [other])
                self.check_unlike((kind, NOUGHT, NOUGHT), {}, [one, other])
            self.check_unlike((kind, METRE, A), {"a": FAR})

    def test_less(self):
        names = {"a": FAR, "b": NEAR, "c": ()}
        for bad in ((A, B), (B, A), (A, C), (C, B), (METRE, A), (PLAIN, B)):
            self.check_unlike(("less", *bad, C, C), names)
            self.check_unlike(("less", C, C, *bad), names)
            self.check_unlike(("less", A, A, *bad), names)
        self.check_unlike(("less", NOUGHT, A, NOUGHT, NOUGHT), names, [NEAR, FAR, FAR])
        self.check_unlike(("less", NOUGHT, A, NOUGHT, NOUGHT), names, [FAR, NEAR, FAR])

    def test_behind_power_times_and_over(self):
        names = {"a": FAR, "b": ()}
        for n in (-4, -1, 1, 4):
            self.check_unlike(("plus", ("power", A, n), B), names)
            self.check_unlike(("power", ("minus", A, B), n), names)
        self.check_unlike(("power", ("minus", A, B), 0), names)
        self.check_unlike(("minus", ("times", A, A), A), names)
        self.check_unlike(("minus", ("over", B, A), A), names)

    def test_alike_ones(self):
        names = {"a": FAR, "b": FAR}
        self.check_true(measure_by(("less", A, B, ("power", A, -4), NOUGHT), names, [(("m", -4 * LONG),)])
                        == (("m", -4 * LONG),))
        self.check_true(measure_by(("minus", ("over", A, B), ("power", A, 0)), names, []) == ())

    def test_what_has_to_be_alike(self):
        told = ("plus", ("is", (1, 1), FAR), ("times", A, ("is", (1, 1), BACK)))
        self.check_true(alike(told) == [(("=a", -1), ("m", 2 * LONG), ("s", -1))])
        self.check_true(measure_of(told) == FAR)
        self.check_error(Unlike, measure_by, told, {"a": ()}, [])


class MeasuresAndFractions(LongNumbers):
    def test_measures(self):
        self.check_true(times(FAR, BACK) == (("s", 1),))
        self.check_true(over(FAR, BACK) == (("m", 2 * LONG), ("s", -1)))
        self.check_true(power(FAR, -LONG) == (("m", -(LONG * LONG)),))
        self.check_true(filled(BACK, {"m": FAR}) == (("m", -(LONG * LONG)), ("s", 1)))

    def test_fractions(self):
        self.check_true(fraction(2 * LONG, -2) == (-LONG, 1))
        self.check_true(added((LONG, 1), (1, LONG)) == (LONG * LONG + 1, LONG))
        self.check_true(lessened((LONG, 1), (LONG, 1)) == (0, 1))
        self.check_true(product((LONG, 3), (3, LONG)) == (1, 1))
        self.check_true(quotient((1, LONG), (-LONG, 1)) == (-1, LONG * LONG))
        self.check_true(raised((LONG, 1), -2) == (1, LONG * LONG))
        self.check_true(raised((-1, 1), LONG + 1) == (-1, 1))
        self.assertIs(is_less((LONG, 1), (LONG + 1, 1)), True)
        self.check_error(ByNought, fraction, LONG, 0)
        self.check_error(ByNought, quotient, (LONG, 1), (0, 1))
        self.check_error(ByNought, raised, (0, 1), -LONG)


class ReckoningsAndWorths(LongNumbers):
    def test_what_is_a_reckoning(self):
        for thing in (("is", (LONG, 1), ()), ("is", (1, LONG), ()), ("is", (1, 1), FAR), ("power", A, LONG), LONG,
                      ("is", LONG, ()), ("input", LONG), (LONG, A), ("nought", LONG), ("is", (1, 1), ((LONG, 1),))):
            self.assertIs(is_reckoning(thing), False)
        told = ("plus", ("is", (LONG, 1), FAR), ("power", A, LONG))
        self.check_true(inputs(told) == ["a"] and noughts(told) == 0)

    def test_worths(self):
        self.check_true(worth(("minus", A, B), {"a": (LONG, 1), "b": (1, LONG)}) == (LONG * LONG - 1, LONG))
        self.check_true(worth(("less", A, B, C, A), {"a": (1, LONG), "b": (LONG, 1), "c": (-LONG, 7)}) == (-LONG, 7))
        self.check_error(NoValue, worth, ("minus", A, B), {"a": (LONG, 1)})
        self.check_error(ByNought, worth, ("over", A, ("minus", A, A)), {"a": (LONG, 7)})
        self.check_error(ByNought, worth, ("power", ("minus", A, A), -LONG), {"a": (LONG, 7)})


class Solving(LongNumbers):
    def check_solved(self, measures, letters):
        answer = solved(measures, letters)
        self.check_answer(measures, letters, answer)
        return answer

    def check_no_fit(self, measures, letters):
        error = self.check_error(NoFit, solved, measures, letters)
        self.check_shown(measures, letters, error)

    def test_others_with_long_powers(self):
        self.check_true(self.check_solved([(("=a", 1), ("m", LONG))], ["=a"]) == ({"=a": (("m", -LONG),)}, {}))
        self.check_true(self.check_solved([(("=a", 2), ("m", LONG))], ["=a"]) == ({"=a": (("m", -LONG // 2),)}, {}))
        self.check_no_fit([(("=a", 2), ("m", LONG + 1))], ["=a"])
        self.check_no_fit([FAR], [])
        self.check_no_fit([FAR], ["=a"])
        self.check_no_fit([(("=a", 1), ("m", LONG)), (("=a", 1), ("m", LONG + 1))], ["=a"])

    def test_letters_with_long_powers(self):
        self.check_true(self.check_solved([(("=a", LONG), ("m", -LONG))], ["=a"]) == ({"=a": (("m", 1),)}, {}))
        answer = self.check_solved([(("=a", LONG), ("=b", -LONG - 1))], ["=a", "=b"])
        self.assertEqual(len(answer[1]), 1)
        self.check_choice(answer, {"=a": (("m", LONG + 1),), "=b": (("m", LONG),)})
        self.assertEqual(len(self.check_solved([(("=a", LONG), ("=b", 1)), ()], ["=a", "=b", "=c"])[1]), 2)
        self.check_no_fit([(("=a", LONG), ("m", 1))], ["=a"])
        self.check_no_fit([(("=a", LONG), ("=b", 2 * LONG), ("m", -1))], ["=a", "=b"])
        self.check_no_fit([(("=a", LONG), ("=b", 1), ("m", 1)), (("=a", 1), ("=b", LONG))], ["=a", "=b"])

    def test_letters_with_long_numbers_in_them(self):
        letter, other = "0" + "1" * 5000, "0" + "2" * 5000
        measure = made_measure({letter: 1, other: -LONG})
        self.check_true(self.check_solved([measure], [letter]) == ({letter: ((other, LONG),)}, {}))
        self.check_true(filled(measure, {letter: ((other, LONG),)}) == ())
        self.check_error(NoValue, scale, measure, {letter: (1, 1)})


class Widest(LongNumbers):
    """Beyond the bounds of point 5: what stage by stage goes on with numbers of any size."""

    def test_long_powers(self):
        told = ("plus", A, ("is", (LONG, 1), FAR))
        self.check_true(widest(told) == ({"a": FAR}, [], FAR, {}))
        self.check_true(widest(("plus", ("power", NOUGHT, LONG), ("is", (1, 1), FAR)))
                        == ({}, [(("m", 1),)], FAR, {}))
        told = ("plus", ("power", A, LONG), METRE)
        self.check_shown(alike(told), ["=a"], self.check_error(NoFit, widest, told))
        told = ("minus", ("is", (1, 1), FAR), ("is", (1, 1), NEAR))
        self.check_shown(alike(told), [], self.check_error(NoFit, widest, told))


class Units(LongNumbers):
    def test_scale(self):
        self.check_true(scale((("m", 2), ("s", -1)), {"m": (LONG, 1), "s": (1, LONG)}) == (LONG ** 3, 1))
        self.check_true(scale(FAR, {"m": (1, 1)}) == (1, 1))
        self.check_error(NoValue, scale, FAR, {"s": (LONG, 1)})
        # Told before the other letters' powers, which nothing could ever work out, are.
        self.check_error(NoValue, scale, BACK, {"m": (2, 1)})

    def test_retold(self):
        told = ("plus", ("is", (1, 3), (("m", 1),)), NOUGHT)
        self.check_true(retold(told, {"m": (LONG, 1)}) == ("plus", ("is", (LONG, 3), (("m", 1),)), NOUGHT))
        self.check_error(NoValue, retold, told, {"s": (LONG, 1)})
        self.check_error(ByNought, worth, retold(("over", told, NOUGHT), {"m": (LONG, 1)}), {})

    def test_rescaled(self):
        values, names = {"a": (1, LONG), "b": (LONG, 1)}, {"a": (("m", 1),), "b": (("m", -1),)}
        self.check_true(rescaled(values, names, {"m": (LONG, 1)}) == {"a": (1, 1), "b": (1, 1)})
        self.check_error(NoValue, rescaled, values, {"c": FAR}, {"m": (LONG, 1)})
        self.check_error(NoValue, rescaled, values, {"a": FAR}, {"s": (LONG, 1)})


class Errors(LongNumbers):
    def test_no_fit_takes_them(self):
        error = NoFit([LONG, -LONG], LONG)
        self.check_true((error.times, error.by) == ([LONG, -LONG], LONG))
        self.assertIsInstance(str(error), str)


if __name__ == "__main__":
    unittest.main()

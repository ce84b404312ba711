"""Point 12: the widest measures that the inputs and noughts of a reckoning may have."""

import copy
import random
import time
import unittest

from makings import (
    METRE, NOUGHT, PLAIN, SECOND, TWOS, chance_fitting, chance_measure, chance_reckoning, filled_by, inp, made_measure,
    paired, walk,
)
from measurekind.errors import MeasureError, NoFit
from measurekind.fitting import alike, measure_by
from measurekind.kinds import widest
from measurekind.reckonings import inputs, is_reckoning, noughts
from solving_checks import UNKNOWN, SolvingTest, unknowns_in

A, B, C, D = [inp(name) for name in "abcd"]
M, S = (("m", 1),), (("s", 1),)
SPEED = (("m", 1), ("s", -1))
SOON = 10


def letters_of(reckoning):
    return ["=" + name for name in inputs(reckoning)] + [f"0{number}" for number in range(noughts(reckoning))]


class WidestTest(SolvingTest):
    def check(self, reckoning):
        answer = widest(reckoning)
        self.assertIs(type(answer), tuple)
        names, numbered, whole, unknowns = answer
        self.assertEqual([type(part) for part in answer], [dict, list, tuple, dict])
        self.assertEqual(sorted(names), inputs(reckoning))
        self.assertEqual(len(numbered), noughts(reckoning))
        told = self.told(names, numbered)
        self.check_answer(alike(reckoning), letters_of(reckoning), (told, unknowns))
        for measure in told.values():
            for letter, _ in measure:
                self.assertTrue(letter.isalpha() or UNKNOWN.fullmatch(letter), letter)
        self.assertEqual(whole, measure_by(reckoning, names, numbered))
        self.check_form(whole)
        self.assertLessEqual(unknowns_in([whole]), set(unknowns))
        return answer

    def told(self, names, numbered):
        told = {"=" + name: measure for name, measure in names.items()}
        told.update({f"0{number}": measure for number, measure in enumerate(numbered)})
        return told

    def check_told(self, reckoning, names, numbered, whole):
        """A reckoning whose choice is open nowhere."""
        self.assertEqual(self.check(reckoning), (names, numbered, whole, {}))

    def check_open(self, reckoning, many):
        answer = self.check(reckoning)
        self.assertEqual(len(answer[3]), many)
        return answer

    def check_choice_fits(self, reckoning, names, numbered):
        """A choice that fits is a filling of the widest one."""
        answer = self.check(reckoning)
        choice = self.told(names, numbered)
        self.check_choice((self.told(answer[0], answer[1]), answer[3]), choice)
        filling = {unknown: filled_by(measure, choice) for unknown, measure in answer[3].items()}
        self.assertEqual(filled_by(answer[2], filling), measure_by(reckoning, names, numbered))

    def check_no_fit(self, reckoning):
        with self.assertRaises(MeasureError) as caught:
            widest(reckoning)
        self.check_shown(alike(reckoning), letters_of(reckoning), caught.exception)
        return caught.exception


class Forms(WidestTest):
    def test_is(self):
        self.check_told(METRE, {}, [], M)
        self.check_told(PLAIN, {}, [], ())
        self.check_told(("is", (0, 1), SPEED), {}, [], SPEED)

    def test_a_nought_alone(self):
        names, numbered, whole, unknowns = self.check_open(NOUGHT, 1)
        self.assertEqual((names, numbered), ({}, [whole]))
        self.assertEqual(unknowns_in([whole]), set(unknowns))

    def test_an_input_alone(self):
        names, numbered, whole, unknowns = self.check_open(A, 1)
        self.assertEqual((names, numbered), ({"a": whole}, []))
        self.check_choice_fits(A, {"a": SPEED}, [])

    def test_plus_and_minus(self):
        for kind in ("plus", "minus"):
            self.check_told((kind, A, METRE), {"a": M}, [], M)
            self.check_told((kind, METRE, NOUGHT), {}, [M], M)
            self.check_told((kind, METRE, METRE), {}, [], M)
            names, _, whole, _ = self.check_open((kind, A, B), 1)
            self.assertEqual(names, {"a": whole, "b": whole})
            self.check_no_fit((kind, METRE, SECOND))
            self.check_no_fit((kind, PLAIN, SECOND))

    def test_times_and_over(self):
        for kind in ("times", "over"):
            self.check_open((kind, A, B), 2)
            self.check_open((kind, A, A), 1)
            self.check_told((kind, METRE, METRE), {}, [], (("m", 2),) if kind == "times" else ())
            self.check_choice_fits((kind, A, NOUGHT), {"a": M}, [SPEED])
        self.check_told(("plus", ("times", A, SECOND), METRE), {"a": SPEED}, [], M)
        self.check_told(("plus", METRE, ("over", A, SECOND)), {"a": (("m", 1), ("s", 1))}, [], M)
        self.check_told(("plus", ("over", METRE, A), SECOND), {"a": SPEED}, [], S)

    def test_power(self):
        square = ("power", METRE, 2)
        self.check_told(("plus", ("power", A, 2), square), {"a": M}, [], (("m", 2),))
        self.check_told(("plus", ("power", A, -2), square), {"a": (("m", -1),)}, [], (("m", 2),))
        self.check_told(("minus", ("power", A, -1), METRE), {"a": (("m", -1),)}, [], M)
        self.check_told(("plus", ("power", ("power", A, 4), -1), ("power", square, 4)), {"a": (("m", -2),)}, [],
                        (("m", 8),))
        for n in range(-4, 5):
            self.check_choice_fits(("power", A, n), {"a": SPEED}, [])
            self.check_choice_fits(("power", ("times", A, NOUGHT), n), {"a": SPEED}, [M])

    def test_a_power_to_nought(self):
        _, _, whole, _ = self.check_open(("power", A, 0), 1)
        self.assertEqual(whole, ())
        self.check_open(("plus", ("power", A, 0), PLAIN), 1)
        self.check_no_fit(("plus", ("power", A, 0), METRE))
        self.check_no_fit(("power", ("plus", METRE, SECOND), 0))
        self.check_told(("power", ("plus", METRE, A), 0), {"a": M}, [], ())

    def test_less(self):
        self.check_told(("less", A, METRE, B, SECOND), {"a": M, "b": S}, [], S)
        self.check_told(("less", NOUGHT, METRE, NOUGHT, SECOND), {}, [M, S], S)
        names, _, whole, _ = self.check_open(("less", A, B, C, D), 2)
        self.assertEqual((names["a"], names["c"]), (names["b"], names["d"]))
        self.assertNotEqual(names["a"], names["c"])
        self.assertEqual(whole, names["c"])
        self.check_no_fit(("less", METRE, SECOND, A, A))
        self.check_no_fit(("less", A, A, METRE, SECOND))

    def test_a_less_within_and_around(self):
        inner = ("less", A, NOUGHT, B, NOUGHT)
        self.check_open(inner, 2)
        self.check_open(("less", inner, METRE, C, inner), 1)
        names, numbered, whole, _ = self.check_open(("plus", inner, METRE), 1)
        self.assertEqual((names["b"], numbered[1], whole), (M, M, M))
        self.check_told(
            ("less", ("less", A, METRE, B, SECOND), C, ("less", PLAIN, PLAIN, D, A), METRE),
            {"a": M, "b": S, "c": S, "d": M}, [], M)
        self.check_no_fit(("less", ("less", A, METRE, A, B), SECOND, C, D))
        self.check_no_fit(("times", A, ("less", A, METRE, ("less", A, SECOND, PLAIN, PLAIN), PLAIN)))


class Letters(WidestTest):
    def test_noughts_in_the_order_of_their_numbers(self):
        told = ("times", ("plus", NOUGHT, METRE), ("over", ("minus", SECOND, NOUGHT), ("plus", NOUGHT, PLAIN)))
        self.check_told(told, {}, [M, S, ()], (("m", 1), ("s", 1)))

    def test_twelve_noughts_and_more(self):
        for many in (12, 13, 25):
            told = PLAIN
            awaited = []
            for number in range(many):
                awaited.append(((chr(ord("a") + number), number + 1),))
                told = ("times", told, ("plus", NOUGHT, ("is", (1, 1), awaited[-1])))
            self.check_told(told, {}, awaited, made_measure({letter: n for [(letter, n)] in awaited}))
        told = NOUGHT
        for _ in range(13):
            told = ("times", told, NOUGHT)
        self.check_open(told, 14)
        self.check_open(("plus", told, METRE), 13)
        told = NOUGHT
        for _ in range(13):
            told = ("minus", NOUGHT, told)
        _, numbered, whole, _ = self.check_open(told, 1)
        self.assertEqual(numbered, [whole] * 14)

    def test_many_inputs(self):
        names = "abcdefghijklmnopqrstuvwxyz"
        told = PLAIN
        for name in names:
            told = ("times", told, ("minus", inp(name * 8), ("is", (1, 1), ((name, -1),))))
        self.check_told(told, {name * 8: ((name, -1),) for name in names}, [], tuple((name, -1) for name in names))

    def test_inputs_and_bases_of_like_names(self):
        m, s = inp("m"), inp("s")
        self.check_told(("over", ("plus", m, SECOND), ("plus", s, METRE)), {"m": S, "s": M}, [], (("m", -1), ("s", 1)))
        names, _, _, _ = self.check_open(("plus", m, ("times", s, METRE)), 1)
        self.check_choice_fits(("plus", m, ("times", s, METRE)), {"m": S, "s": (("m", -1), ("s", 1))}, [])
        self.assertEqual(sorted(names), ["m", "s"])

    def test_an_input_met_again(self):
        self.check_told(("plus", A, ("times", A, A)), {"a": ()}, [], ())
        self.check_told(("times", ("plus", A, METRE), ("power", A, 3)), {"a": M}, [], (("m", 4),))
        self.check_no_fit(("times", ("plus", A, METRE), ("plus", A, SECOND)))

    def test_roots_that_are_shared(self):
        told = ("plus", ("power", A, 2), ("power", B, 3))
        self.check_open(told, 1)
        self.check_choice_fits(told, {"a": (("m", 3),), "b": (("m", 2),)}, [])
        self.check_choice_fits(told, {"a": (("m", -9), ("s", 6)), "b": (("m", -6), ("s", 4))}, [])


class NoChoiceFits(WidestTest):
    def test_only_a_power_stands_in_the_way(self):
        for n in (2, 3, 4, -2, -3, -4):
            for told in (("plus", ("power", A, n), METRE), ("minus", METRE, ("power", NOUGHT, n))):
                error = self.check_no_fit(told)
                self.assertEqual(error.by, abs(n))
        self.check_no_fit(("plus", ("times", A, A), METRE))
        self.check_no_fit(("plus", ("times", ("power", A, 2), ("power", B, 4)), METRE))
        self.check_no_fit(("less", ("power", A, 4), ("power", METRE, 2), PLAIN, PLAIN))

    def test_a_number_for_each_of_alike(self):
        told = ("times", ("plus", A, B), ("minus", ("power", C, 2), ("plus", METRE, D)))
        error = self.check_no_fit(told)
        self.assertEqual(len(error.times), 3)

    def test_behind_several_measures(self):
        around = ("times", ("plus", A, B), ("plus", B, C))
        self.check_no_fit(("times", around, ("plus", ("times", C, A), SECOND)))
        self.check_no_fit(("times", ("plus", ("times", A, B), METRE), ("minus", A, B)))
        self.check_no_fit(("less", ("times", A, B), METRE, A, ("minus", ("power", C, 2), B)))


class Many(WidestTest):
    def test_made_from_a_choice(self):
        chance = random.Random(12)
        open_ones = 0
        for _ in range(500):
            names, numbered = {}, []
            told = chance_fitting(chance, chance.randrange(1, 7), chance_measure(chance, 3), names, numbered)
            self.check_choice_fits(told, names, numbered)
            open_ones += len(widest(told)[3]) > 0
        self.assertGreater(open_ones, 100)

    def test_any(self):
        chance = random.Random(21)
        met = {True: 0, False: 0}
        for _ in range(1500):
            told = chance_reckoning(chance, chance.randrange(1, 6))
            try:
                widest(told)
            except NoFit:
                self.check_no_fit(told)
                met[False] += 1
            else:
                self.check(told)
                met[True] += 1
        self.assertGreater(min(met.values()), 200)


class LeftAlone(WidestTest):
    def test_nothing_is_changed_and_what_is_told_is_the_askers_own(self):
        told = ("less", A, NOUGHT, ("times", B, NOUGHT), NOUGHT)
        ahead = copy.deepcopy(told)
        first, second = widest(told), widest(told)
        first[0].clear()
        first[1].clear()
        first[3].clear()
        self.assertEqual(self.check(told), second)
        self.assertEqual(told, ahead)


class Soon(WidestTest):
    """Reckonings at the bounds of point 5: 12 deep, or about 100 reckonings in all."""

    def timed(self, reckoning, fits):
        self.assertTrue(is_reckoning(reckoning))
        begun = time.process_time()
        if fits:
            self.check(reckoning)
        else:
            self.check_no_fit(reckoning)
        self.assertLess(time.process_time() - begun, SOON)

    def names(self, many):
        return [inp("abcdefghijklmnopqrstuvwxyz"[number % 26] * (1 + number // 26)) for number in range(many)]

    def test_a_hundred_in_all(self):
        for kind in TWOS:
            for parts in (self.names(50), [NOUGHT] * 50, self.names(25) + [NOUGHT] * 25):
                told = paired(kind, parts)
                self.assertEqual(len(list(walk(told))), 99)
                self.timed(told, True)
                self.timed(("power", told, -4), True)
        self.timed(paired("plus", self.names(48) + [METRE, METRE]), True)
        self.timed(paired("plus", self.names(48) + [METRE, SECOND]), False)

    def test_a_less_within_less(self):
        leaves = self.names(32) + [NOUGHT] * 32
        for parts in (leaves, leaves[::2] + leaves[1::2], leaves[:-2] + [METRE, SECOND]):
            while len(parts) > 1:
                parts = [("less", *parts[at:at + 4]) for at in range(0, len(parts), 4)]
            self.assertEqual(len(list(walk(parts[0]))), 85)
            self.timed(parts[0], SECOND not in list(walk(parts[0])))

    def test_twelve_deep(self):
        for kind in TWOS:
            told = ("power", A, 3)
            for name in "bcdefghijk":
                told = (kind, told, ("power", inp(name), -4))
            self.timed(told, True)
        told = ("power", A, 3)
        for name in "bcdefghijk":
            told = ("less", told, inp(name), ("power", inp(name * 2), 3), NOUGHT)
        self.timed(told, True)

    def test_many_powers(self):
        terms = []
        for number in range(8):
            one, other, third = [inp("abcdefghijk"[(number * n + n) % 11]) for n in (1, 2, 3)]
            terms.append(("times", ("power", one, 4), ("over", ("power", other, 3), ("power", third, -2))))
        told = paired("plus", terms)
        self.timed(told, True)
        self.timed(("power", told, 4), True)
        self.timed(("plus", ("power", told, 4), METRE), False)


if __name__ == "__main__":
    unittest.main()

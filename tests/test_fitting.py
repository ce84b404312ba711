"""Points 8 and 9: the measure by a choice, and what has to be alike."""

import copy
import random
import unittest

from makings import (
    METRE, NOUGHT, ONE, PLAIN, SECOND, TWOS, chance_fitting, chance_measure, chance_reckoning, inp, joined, walk,
)
from measurekind.errors import Unlike
from measurekind.fitting import alike, measure_by, measure_of
from measurekind.measures import filled

A, B, C, D = [inp(name) for name in "abcd"]
M, S, K = (("m", 1),), (("s", 1),), (("k", 1),)
SPEED = (("m", 1), ("s", -1))


def by_letters(reckoning, noughts=None):
    """The measure and the measures that have to be (), as point 9 says, apart from the program."""
    noughts = [0] if noughts is None else noughts
    kind = reckoning[0]
    if kind == "is":
        return reckoning[2], []
    if kind == "input":
        return (("=" + reckoning[1], 1),), []
    if kind == "nought":
        noughts[0] += 1
        return ((f"0{noughts[0] - 1}", 1),), []
    inner = [by_letters(part, noughts) for part in reckoning[1:] if isinstance(part, tuple)]
    found = [measure for _, measures in inner for measure in measures]
    whole = inner[0][0]
    if kind in ("times", "over"):
        whole = joined(whole, inner[1][0], 1 if kind == "times" else -1)
    elif kind == "power":
        whole = joined((), whole, reckoning[2])
    else:
        found.append(joined(whole, inner[1][0], -1))
    if kind == "less":
        whole = inner[2][0]
        found.append(joined(whole, inner[3][0], -1))
    return whole, found


class FittingTest(unittest.TestCase):
    def check_form(self, measure):
        self.assertIs(type(measure), tuple)
        self.assertEqual(list(measure), sorted(set(measure)))
        for letter, many in measure:
            self.assertEqual((type(letter), type(many)), (str, int))
            self.assertNotEqual(many, 0)

    def check(self, reckoning, names, noughts, awaited):
        told = measure_by(reckoning, names, noughts)
        self.check_form(told)
        self.assertEqual(told, awaited)

    def check_unlike(self, reckoning, names=None, noughts=None):
        with self.assertRaises(Unlike) as caught:
            measure_by(reckoning, names or {}, noughts or [])
        self.assertIs(type(caught.exception), Unlike)

    def check_alike(self, reckoning, awaited, whole):
        told = alike(reckoning)
        self.assertIs(type(told), list)
        for measure in told:
            self.check_form(measure)
        self.assertEqual(told, awaited)
        self.check_form(measure_of(reckoning))
        self.assertEqual(measure_of(reckoning), whole)


class MeasureBy(FittingTest):
    def test_leaves(self):
        self.check(METRE, {}, [], M)
        self.check(PLAIN, {}, [], ())
        self.check(("is", (0, 1), SPEED), {}, [], SPEED)
        self.check(NOUGHT, {}, [SPEED], SPEED)
        self.check(NOUGHT, {}, [()], ())
        self.check(A, {"a": SPEED}, [], SPEED)

    def test_times_over_power(self):
        names = {"a": SPEED, "b": (("m", -2), ("s", 1))}
        self.check(("times", A, B), names, [], (("m", -1),))
        self.check(("over", A, B), names, [], (("m", 3), ("s", -2)))
        self.check(("over", B, A), names, [], (("m", -3), ("s", 2)))
        self.check(("over", A, A), names, [], ())
        for n in (-4, -1, 1, 2, 4):
            self.check(("power", A, n), names, [], (("m", n), ("s", -n)))
        self.check(("power", A, 0), names, [], ())

    def test_plus_and_minus(self):
        for kind in ("plus", "minus"):
            self.check((kind, METRE, METRE), {}, [], M)
            self.check((kind, METRE, A), {"a": M}, [], M)
            self.check((kind, NOUGHT, A), {"a": SPEED}, [SPEED], SPEED)
            self.check((kind, ("over", METRE, SECOND), A), {"a": SPEED}, [], SPEED)
            self.check_unlike((kind, METRE, SECOND))
            self.check_unlike((kind, METRE, PLAIN))
            self.check_unlike((kind, PLAIN, METRE))
            self.check_unlike((kind, METRE, ("power", METRE, 2)))
            self.check_unlike((kind, A, B), {"a": SPEED, "b": (("m", 1), ("s", -2))})
            self.check_unlike((kind, A, B), {"a": M, "b": SPEED})
            self.check_unlike((kind, NOUGHT, METRE), {}, [S])
            self.check_unlike((kind, METRE, NOUGHT), {}, [()])

    def test_less(self):
        self.check(("less", METRE, METRE, SECOND, SECOND), {}, [], S)
        self.check(("less", SECOND, SECOND, METRE, METRE), {}, [], M)
        self.check(("less", A, B, C, D), {"a": (), "b": (), "c": SPEED, "d": SPEED}, [], SPEED)
        self.check_unlike(("less", METRE, SECOND, SECOND, SECOND))
        self.check_unlike(("less", SECOND, METRE, SECOND, SECOND))
        self.check_unlike(("less", METRE, METRE, SECOND, METRE))
        self.check_unlike(("less", METRE, METRE, METRE, SECOND))
        self.check_unlike(("less", METRE, SECOND, METRE, SECOND))
        self.check_unlike(("less", METRE, PLAIN, PLAIN, PLAIN))

    def test_the_values_do_not_choose(self):
        self.check_unlike(("less", ("is", (1, 1), ()), ("is", (2, 1), ()), METRE, SECOND))
        self.check_unlike(("less", NOUGHT, NOUGHT, PLAIN, ("plus", METRE, SECOND)), {}, [(), ()])
        self.check_unlike(("less", NOUGHT, NOUGHT, ("minus", METRE, SECOND), METRE), {}, [(), ()])
        self.check(("over", METRE, NOUGHT), {}, [S], SPEED)

    def test_deep(self):
        bad = ("plus", METRE, SECOND)
        for kind in TWOS:
            self.check_unlike((kind, bad, bad))
            self.check_unlike((kind, METRE, bad))
            self.check_unlike((kind, bad, METRE))
        for place in range(1, 5):
            told = ["less", METRE, METRE, METRE, METRE]
            self.check(tuple(told), {}, [], M)
            told[place] = bad
            self.check_unlike(tuple(told))

    def test_within_powers_and_where_a_letter_cancels_out(self):
        bad = ("plus", METRE, SECOND)
        for n in range(-4, 5):
            self.check_unlike(("power", bad, n))
            self.check_unlike(("power", ("power", bad, 0), n))
        self.check_unlike(("over", bad, bad))
        self.check_unlike(("over", ("minus", A, B), ("minus", A, B)), {"a": M, "b": S})
        self.check_unlike(("times", bad, ("power", bad, -1)))
        self.check(("plus", ("power", METRE, 0), ("over", SECOND, SECOND)), {}, [], ())

    def test_noughts_by_their_numbers(self):
        told = ("times", ("over", NOUGHT, ("power", NOUGHT, 2)), ("times", NOUGHT, METRE))
        self.check(told, {}, [M, S, K], (("k", 1), ("m", 2), ("s", -2)))
        self.check(told, {}, [K, M, S], (("k", 1), ("m", -1), ("s", 1)))

    def test_noughts_of_a_less(self):
        told = ("less", NOUGHT, METRE, ("times", NOUGHT, NOUGHT), ("over", NOUGHT, NOUGHT))
        self.check(told, {}, [M, S, K, (("k", 2), ("s", 1)), K], (("k", 1), ("s", 1)))
        self.check_unlike(told, {}, [S, S, K, (("k", 2), ("s", 1)), K])
        self.check_unlike(told, {}, [M, S, K, K, (("k", 2), ("s", 1))])
        told = ("plus", ("less", NOUGHT, NOUGHT, NOUGHT, NOUGHT), NOUGHT)
        self.check(told, {}, [M, M, S, S, S], S)
        self.check_unlike(told, {}, [M, M, S, S, M])
        self.check_unlike(told, {}, [S, S, M, M, S])

    def test_more_than_nine_noughts(self):
        told = NOUGHT
        for _ in range(11):
            told = ("times", told, ("power", NOUGHT, 2))
        letters = "abcdefghijkl"
        awaited = (("a", 1), *[(letter, 2) for letter in letters[1:]])
        self.check(told, {}, [((letter, 1),) for letter in letters], awaited)

    def test_one_choice_for_all_of_an_input(self):
        told = ("over", ("times", A, A), ("power", A, 3))
        self.check(told, {"a": SPEED}, [], (("m", -1), ("s", 1)))
        self.check_unlike(("plus", A, ("times", A, A)), {"a": M})
        self.check(("plus", A, ("times", A, A)), {"a": ()}, [], ())

    def test_inputs_and_bases_of_like_names(self):
        m = inp("m")
        self.check(("times", m, METRE), {"m": S}, [], (("m", 1), ("s", 1)))
        self.check_unlike(("plus", m, METRE), {"m": S})
        self.check(("plus", m, METRE), {"m": M}, [], M)

    def test_letters_of_all_kinds_in_a_choice(self):
        wide = (("00", 1), ("=a", -2), ("?0", 10 ** 30), ("m", 1))
        self.check(("times", A, NOUGHT), {"a": wide}, [(("=a", 2), ("m", -1))], (("00", 1), ("?0", 10 ** 30)))
        self.check(("plus", A, NOUGHT), {"a": wide}, [wide], wide)
        self.check_unlike(("plus", A, NOUGHT), {"a": wide}, [(("00", 1),)])
        self.check_unlike(("plus", A, B), {"a": (("=b", 1),), "b": (("00", 1),)})
        self.check(("power", A, 4), {"a": (("?3", 10 ** 40),)}, [], (("?3", 4 * 10 ** 40),))

    def test_names_with_more_than_the_inputs(self):
        self.check(("over", A, METRE), {"m": S, "b": K, "a": M, "zz": ()}, [], ())
        self.check(METRE, {"a": S, "m": K}, [], M)

    def test_left_alone(self):
        names, noughts = {"b": M, "a": S, "x": ()}, [M, M, S]
        told = ("less", NOUGHT, ("times", NOUGHT, ("power", B, 0)), NOUGHT, A)
        ahead = copy.deepcopy((list(names.items()), noughts))
        for _ in range(2):
            self.check(told, names, noughts, S)
            self.assertEqual((list(names.items()), noughts), ahead)
        noughts[0] = K
        for _ in range(2):
            self.check_unlike(told, names, noughts)
            self.assertEqual((list(names.items()), noughts), (ahead[0], [K, M, S]))


class Alike(FittingTest):
    def test_of_leaves_times_over_and_power_none(self):
        self.check_alike(METRE, [], M)
        self.check_alike(PLAIN, [], ())
        self.check_alike(NOUGHT, [], (("00", 1),))
        self.check_alike(A, [], (("=a", 1),))
        self.check_alike(("times", A, B), [], (("=a", 1), ("=b", 1)))
        self.check_alike(("times", A, A), [], (("=a", 2),))
        self.check_alike(("over", METRE, A), [], (("=a", -1), ("m", 1)))
        self.check_alike(("over", A, A), [], ())

    def test_powers(self):
        part = ("over", A, METRE)
        for n in (-4, -1, 1, 4):
            self.check_alike(("power", part, n), [], (("=a", n), ("m", -n)))
        self.check_alike(("power", part, 0), [], ())
        self.check_alike(("power", ("power", part, -2), 3), [], (("=a", -6), ("m", 6)))

    def test_plus_and_minus(self):
        for kind in ("plus", "minus"):
            self.check_alike((kind, A, B), [(("=a", 1), ("=b", -1))], (("=a", 1),))
            self.check_alike((kind, B, A), [(("=a", -1), ("=b", 1))], (("=b", 1),))
            self.check_alike((kind, A, A), [()], (("=a", 1),))
            self.check_alike((kind, METRE, SECOND), [SPEED], M)
            self.check_alike((kind, METRE, METRE), [()], M)
            self.check_alike((kind, NOUGHT, NOUGHT), [(("00", 1), ("01", -1))], (("00", 1),))
            self.check_alike((kind, PLAIN, A), [(("=a", -1),)], ())

    def test_less(self):
        self.check_alike(
            ("less", A, B, C, D), [(("=a", 1), ("=b", -1)), (("=c", 1), ("=d", -1))], (("=c", 1),))
        self.check_alike(
            ("less", NOUGHT, NOUGHT, NOUGHT, NOUGHT), [(("00", 1), ("01", -1)), (("02", 1), ("03", -1))],
            (("02", 1),))
        self.check_alike(("less", METRE, SECOND, SECOND, METRE), [SPEED, (("m", -1), ("s", 1))], S)

    def test_parts_ahead_of_its_own_from_left_to_right(self):
        told = ("plus", ("minus", A, METRE), ("minus", B, SECOND))
        self.check_alike(
            told, [(("=a", 1), ("m", -1)), (("=b", 1), ("s", -1)), (("=a", 1), ("=b", -1))], (("=a", 1),))
        told = ("less", ("plus", A, METRE), ("plus", B, METRE), ("plus", C, METRE), ("plus", D, METRE))
        self.check_alike(told, [
            (("=a", 1), ("m", -1)), (("=b", 1), ("m", -1)), (("=c", 1), ("m", -1)), (("=d", 1), ("m", -1)),
            (("=a", 1), ("=b", -1)), (("=c", 1), ("=d", -1))], (("=c", 1),))

    def test_through_times_over_and_power(self):
        told = ("over", ("plus", A, METRE), ("times", ("power", ("minus", B, SECOND), 0), ("plus", NOUGHT, C)))
        self.check_alike(
            told, [(("=a", 1), ("m", -1)), (("=b", 1), ("s", -1)), (("00", 1), ("=c", -1))], (("00", -1), ("=a", 1)))
        told = ("plus", ("power", ("minus", A, B), -2), PLAIN)
        self.check_alike(told, [(("=a", 1), ("=b", -1)), (("=a", -2),)], (("=a", -2),))

    def test_of_a_plus_or_less_the_first_or_third_goes_on(self):
        told = ("minus", ("plus", A, B), C)
        self.check_alike(told, [(("=a", 1), ("=b", -1)), (("=a", 1), ("=c", -1))], (("=a", 1),))
        told = ("minus", D, ("less", A, A, B, C))
        self.check_alike(told, [(), (("=b", 1), ("=c", -1)), (("=b", -1), ("=d", 1))], (("=d", 1),))
        told = ("plus", ("less", A, B, ("plus", C, D), NOUGHT), METRE)
        self.check_alike(told, [
            (("=c", 1), ("=d", -1)), (("=a", 1), ("=b", -1)), (("00", -1), ("=c", 1)), (("=c", 1), ("m", -1))],
            (("=c", 1),))

    def test_deep_ones_stand_ahead(self):
        told = ("plus", A, ("plus", B, ("plus", C, ("plus", D, METRE))))
        self.check_alike(told, [
            (("=d", 1), ("m", -1)), (("=c", 1), ("=d", -1)), (("=b", 1), ("=c", -1)), (("=a", 1), ("=b", -1))],
            (("=a", 1),))
        told = ("plus", ("plus", ("plus", A, B), C), D)
        self.check_alike(told, [
            (("=a", 1), ("=b", -1)), (("=a", 1), ("=c", -1)), (("=a", 1), ("=d", -1))], (("=a", 1),))

    def test_inputs_and_bases_of_like_names(self):
        told = ("plus", inp("m"), METRE)
        self.check_alike(told, [(("=m", 1), ("m", -1))], (("=m", 1),))
        self.check_alike(("over", inp("m"), METRE), [], (("=m", 1), ("m", -1)))

    def test_noughts_by_their_numbers(self):
        told = ("less", NOUGHT, ("times", NOUGHT, A), ("power", NOUGHT, 2), ("over", NOUGHT, NOUGHT))
        self.check_alike(
            told, [(("00", 1), ("01", -1), ("=a", -1)), (("02", 2), ("03", -1), ("04", 1))], (("02", 2),))

    def test_numbers_of_more_than_one_figure(self):
        told = ("times", NOUGHT, NOUGHT)
        for _ in range(10):
            told = ("times", told, NOUGHT)
        awaited = tuple((letter, 1) for letter in sorted(f"0{number}" for number in range(12)))
        self.check_alike(told, [], awaited)
        self.check_alike(("plus", told, NOUGHT), [tuple(sorted([*awaited, ("012", -1)]))], awaited)

    def test_many(self):
        chance = random.Random(9)
        for _ in range(1500):
            told = chance_reckoning(chance, chance.randrange(1, 7))
            whole, found = by_letters(told)
            self.check_alike(told, found, whole)

    def test_the_list_is_the_askers_own(self):
        told = ("plus", A, B)
        first = alike(told)
        first.append(M)
        self.check_alike(told, [(("=a", 1), ("=b", -1))], (("=a", 1),))

    def test_beyond_the_limits(self):
        told = inp("abcdefghijk")
        for _ in range(60):
            told = ("plus", told, ("power", NOUGHT, 9))
        self.assertEqual(len(list(walk(told))), 181)
        awaited = [((f"0{number}", -9), ("=abcdefghijk", 1)) for number in range(60)]
        self.check_alike(told, awaited, (("=abcdefghijk", 1),))
        self.check(told, {"abcdefghijk": (("m", 90),)}, [(("m", 10),)] * 60, (("m", 90),))
        wide = tuple((letter, 30) for letter in "abcdefgh")
        self.check(("power", ("is", ONE, wide), 7), {}, [], tuple((letter, 210) for letter in "abcdefgh"))


class ChoicesThatFit(FittingTest):
    """A choice fits just where all of alike, filled with it, are (); the measure is measure_of's, filled."""

    def filling(self, names, noughts):
        told = {"=" + name: measure for name, measure in names.items()}
        told.update({f"0{number}": measure for number, measure in enumerate(noughts)})
        return told

    def check_both_ways(self, reckoning, names, noughts):
        filling = self.filling(names, noughts)
        fits = all(filled(measure, filling) == () for measure in alike(reckoning))
        if fits:
            self.check(reckoning, names, noughts, filled(measure_of(reckoning), filling))
        else:
            self.check_unlike(reckoning, names, noughts)
        return fits

    def test_one_that_fits_and_one_that_does_not(self):
        told = ("plus", ("times", A, NOUGHT), ("over", METRE, B))
        self.assertTrue(self.check_both_ways(told, {"a": M, "b": S}, [(("s", -1),)]))
        self.assertFalse(self.check_both_ways(told, {"a": M, "b": S}, [S]))
        told = ("less", A, METRE, NOUGHT, B)
        self.assertTrue(self.check_both_ways(told, {"a": M, "b": S}, [S]))
        self.assertFalse(self.check_both_ways(told, {"a": S, "b": S}, [S]))
        self.assertFalse(self.check_both_ways(told, {"a": M, "b": S}, [()]))

    def test_many_that_fit(self):
        chance = random.Random(89)
        large = 0
        for _ in range(600):
            names, noughts, target = {}, [], chance_measure(chance, 3)
            told = chance_fitting(chance, chance.randrange(1, 7), target, names, noughts)
            self.check(told, names, noughts, target)
            self.assertTrue(self.check_both_ways(told, names, noughts))
            large += len(alike(told)) > 3
        self.assertGreater(large, 100)

    def test_many_of_which_one_measure_is_changed(self):
        chance = random.Random(98)
        met = {True: 0, False: 0}
        for _ in range(800):
            names, noughts = {}, []
            told = chance_fitting(chance, chance.randrange(2, 6), chance_measure(chance, 3), names, noughts)
            if noughts and (not names or chance.randrange(2)):
                noughts[chance.randrange(len(noughts))] = (("x", 1),)
            elif names:
                names[chance.choice(sorted(names))] = (("x", 1),)
            met[self.check_both_ways(told, names, noughts)] += 1
        self.assertGreater(min(met.values()), 100)


if __name__ == "__main__":
    unittest.main()

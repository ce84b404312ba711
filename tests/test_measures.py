"""Points 2 and 3: products, quotients, powers and filling of measures."""

import random
import unittest

from measurekind.measures import filled, over, power, times

LARGE = 10 ** 20
KINDS = ["m", "=m", "00", "?0"]
# Alike but for one sign, of unlike lengths, and some whose texts compare otherwise
# than their numbers do ("?10" stands ahead of "?2").
LETTERS = [
    "a", "b", "aa", "ab", "m", "mm", "metre", "metrf", "meter", "abcdefgh", "abcdefgi", "z", "zzzzzzzz",
    "=a", "=b", "=aa", "=ab", "=m", "=mm", "=metre", "=metrf", "=meter", "=abcdefgh", "=abcdefgi", "=z", "=zzzzzzzz",
    "00", "01", "02", "010", "011", "019", "020", "0100", "0101", "099999999",
    "?0", "?1", "?2", "?10", "?11", "?19", "?20", "?100", "?101", "?99999999",
    "c", "d", "e", "f", "=c", "=d", "=e", "=f", "03", "04", "05", "06", "?3", "?4", "?5", "?6",
]
POWERS = [1, 1, 2, 3, -1, -1, -2, -7, 20, -20, LARGE, -LARGE, LARGE + 1, 1 - LARGE]


def measure(powers):
    """The measure of a dict from letters to powers, by the words of point 2."""
    return tuple((letter, powers[letter]) for letter in sorted(powers) if powers[letter] != 0)


def drawn(chance, most):
    letters = chance.sample(LETTERS, chance.randrange(most + 1))
    return measure({letter: chance.choice(POWERS) for letter in letters})


def power_of(one, letter):
    return dict(one).get(letter, 0)


class MeasureTest(unittest.TestCase):
    def check_form(self, answer):
        self.assertIs(type(answer), tuple)
        for pair in answer:
            self.assertIs(type(pair), tuple)
            self.assertEqual(len(pair), 2)
            self.assertIs(type(pair[0]), str)
            self.assertIs(type(pair[1]), int)
            self.assertNotEqual(pair[1], 0)
        letters = [letter for letter, _ in answer]
        for ahead, behind in zip(letters, letters[1:]):
            self.assertLess(ahead, behind)

    def check(self, answer, awaited):
        self.check_form(answer)
        self.assertEqual(answer, awaited)


class Times(MeasureTest):
    def test_ordinary(self):
        self.check(times((("m", 1),), (("s", -2),)), (("m", 1), ("s", -2)))
        self.check(times((("s", -2),), (("m", 1),)), (("m", 1), ("s", -2)))
        self.check(times((("m", 1), ("s", 3)), (("m", 4), ("s", -2))), (("m", 5), ("s", 1)))

    def test_plain_numbers(self):
        self.check(times((), ()), ())
        self.check(times((("m", 2),), ()), (("m", 2),))
        self.check(times((), (("m", 2),)), (("m", 2),))

    def test_letters_cancel_out(self):
        self.check(times((("m", 2),), (("m", -2),)), ())
        self.check(times((("a", 1), ("m", 2), ("z", 1)), (("m", -2),)), (("a", 1), ("z", 1)))

    def test_letters_of_all_kinds_stay_apart(self):
        self.check(times((("m", 1),), (("=m", 1),)), (("=m", 1), ("m", 1)))
        self.check(times((("0", 1), ("=m", 1)), (("?0", 1), ("m", 1))), (("0", 1), ("=m", 1), ("?0", 1), ("m", 1)))

    def test_letters_rise_as_texts(self):
        self.check(times((("?2", 1),), (("?10", 1),)), (("?10", 1), ("?2", 1)))
        self.check(times((("aa", 1), ("b", 1)), (("a", 1),)), (("a", 1), ("aa", 1), ("b", 1)))
        self.check(times((("?1", 1),), (("a", 1),)), (("?1", 1), ("a", 1)))

    def test_large_powers(self):
        self.check(times((("m", LARGE),), (("m", LARGE),)), (("m", 2 * LARGE),))
        self.check(times((("m", LARGE),), (("m", 1 - LARGE),)), (("m", 1),))
        self.check(times((("m", LARGE),), (("m", -LARGE),)), ())


class Over(MeasureTest):
    def test_ordinary(self):
        self.check(over((("m", 1),), (("s", 2),)), (("m", 1), ("s", -2)))
        self.check(over((("m", 1), ("s", 3)), (("m", 4), ("s", 1))), (("m", -3), ("s", 2)))

    def test_plain_numbers(self):
        self.check(over((), ()), ())
        self.check(over((("m", 2),), ()), (("m", 2),))
        self.check(over((), (("=m", 2), ("m", -3))), (("=m", -2), ("m", 3)))

    def test_letters_cancel_out(self):
        self.check(over((("m", 2),), (("m", 2),)), ())
        self.check(over((("a", 1), ("m", 2)), (("a", 1), ("m", 1))), (("m", 1),))

    def test_anything_over_itself(self):
        chance = random.Random(1)
        for _ in range(200):
            one = drawn(chance, 60)
            self.check(over(one, one), ())

    def test_letters_rise_as_texts(self):
        self.check(over((("z", 1),), (("=z", 1), ("a", 1))), (("=z", -1), ("a", -1), ("z", 1)))

    def test_large_powers(self):
        self.check(over((("m", -LARGE),), (("m", LARGE),)), (("m", -2 * LARGE),))
        self.check(over((("m", LARGE + 1),), (("m", LARGE),)), (("m", 1),))


class Power(MeasureTest):
    def test_ordinary(self):
        self.check(power((("m", 1), ("s", -2)), 3), (("m", 3), ("s", -6)))
        self.check(power((("m", 1), ("s", -2)), 1), (("m", 1), ("s", -2)))
        self.check(power((("m", 1), ("s", -2)), -1), (("m", -1), ("s", 2)))
        self.check(power((("0", 1), ("=m", 2), ("?0", 3), ("m", 4)), -2),
                   (("0", -2), ("=m", -4), ("?0", -6), ("m", -8)))

    def test_to_nought(self):
        self.check(power((("m", 1), ("s", -2)), 0), ())
        self.check(power((), 0), ())

    def test_plain_numbers(self):
        for n in (1, -1, 4, LARGE, -LARGE):
            self.check(power((), n), ())

    def test_large_powers(self):
        self.check(power((("m", 3),), LARGE), (("m", 3 * LARGE),))
        self.check(power((("m", 3),), -LARGE), (("m", -3 * LARGE),))
        self.check(power((("m", LARGE),), -LARGE), (("m", -LARGE * LARGE),))


class Many(MeasureTest):
    """Against the words of point 3, letter by letter."""

    def test_letters_given(self):
        self.assertEqual(len(set(LETTERS)), len(LETTERS))
        self.assertGreaterEqual(len(LETTERS), 60)
        everything = measure({letter: at + 1 for at, letter in enumerate(LETTERS)})
        self.check(times(everything, everything), tuple((letter, 2 * n) for letter, n in everything))
        self.check(over((), everything), tuple((letter, -n) for letter, n in everything))
        self.check(power(everything, -LARGE), tuple((letter, -LARGE * n) for letter, n in everything))
        self.check(filled(everything, {letter: () for letter in LETTERS}), ())

    def test_times_over_power(self):
        chance = random.Random(2)
        for turn in range(1500):
            one, other = drawn(chance, turn % 61), drawn(chance, (turn * 7) % 61)
            n = chance.choice(POWERS + [0])
            self.check(times(one, other), measure({x: power_of(one, x) + power_of(other, x) for x in LETTERS}))
            self.check(over(one, other), measure({x: power_of(one, x) - power_of(other, x) for x in LETTERS}))
            self.check(power(one, n), measure({x: power_of(one, x) * n for x in LETTERS}))

    def test_filled(self):
        chance = random.Random(3)
        for turn in range(800):
            one = drawn(chance, turn % 61)
            filling = {x: drawn(chance, 6) for x in chance.sample(LETTERS, chance.randrange(len(LETTERS)))}
            kept = dict(filling)
            awaited = dict.fromkeys(LETTERS, 0)
            for letter, n in one:
                for inner, m in filling.get(letter, ((letter, 1),)):
                    awaited[inner] += n * m
            self.check(filled(one, filling), measure(awaited))
            self.assertEqual(list(filling.items()), list(kept.items()))


class Filled(MeasureTest):
    def test_ordinary(self):
        speed = (("m", 1), ("s", -1))
        self.check(filled((("=a", 2), ("kg", 1)), {"=a": speed}), (("kg", 1), ("m", 2), ("s", -2)))

    def test_to_the_power_of_the_letter(self):
        for n in (1, 2, -1, -5, LARGE, -LARGE):
            self.check(filled((("?0", n),), {"?0": (("m", 1), ("s", -3))}), measure({"m": n, "s": -3 * n}))
        self.check(filled((("?0", LARGE),), {"?0": (("m", -LARGE),)}), (("m", -LARGE * LARGE),))

    def test_all_at_once(self):
        one = (("a", 2), ("b", 5))
        self.check(filled(one, {"a": (("b", 1),), "b": (("a", 1),)}), (("a", 5), ("b", 2)))
        self.check(filled(one, {"b": (("a", 1),), "a": (("b", 1),)}), (("a", 5), ("b", 2)))
        around = {"a": (("b", 1),), "b": (("c", 1),), "c": (("a", 1),)}
        self.check(filled((("a", 1), ("b", 2), ("c", 3)), around), (("a", 3), ("b", 1), ("c", 2)))

    def test_a_letter_in_its_own_measure(self):
        self.check(filled((("a", 3),), {"a": (("a", 2), ("b", 1))}), (("a", 6), ("b", 3)))
        self.check(filled((("a", 3),), {"a": (("a", 1),)}), (("a", 3),))

    def test_the_other_letters_stay(self):
        self.check(filled((("=a", 1), ("a", 2), ("aa", 3)), {"a": (("z", 1),)}), (("=a", 1), ("aa", 3), ("z", 2)))

    def test_an_empty_filling(self):
        one = (("=a", 1), ("?1", -LARGE), ("a", 2))
        self.check(filled(one, {}), one)

    def test_plain_numbers(self):
        self.check(filled((), {}), ())
        self.check(filled((), {"a": (("b", 1),)}), ())
        self.check(filled((("a", 2), ("b", 1)), {"a": ()}), (("b", 1),))

    def test_letters_cancel_out_behind_the_filling(self):
        self.check(filled((("a", 1), ("b", 1)), {"a": (("c", 1),), "b": (("c", -1),)}), ())
        self.check(filled((("a", 1), ("b", -2)), {"a": (("b", 2),)}), ())
        self.check(filled((("a", 2), ("b", 3)), {"a": (("c", 3), ("d", 1)), "b": (("c", -2),)}), (("d", 2),))

    def test_letters_that_only_the_filling_has(self):
        filling = {"a": (("b", 1),), "x": (("y", 1),), "b": (("z", 1),)}
        self.check(filled((("a", 1), ("c", 1)), filling), (("b", 1), ("c", 1)))

    def test_a_filling_of_all_kinds_of_letters(self):
        filling = {"m": (("?0", 1),), "=m": (("m", 1),), "00": (("=m", 1),), "?0": (("00", 1),)}
        one = measure({letter: at + 1 for at, letter in enumerate(KINDS)})
        self.check(filled(one, filling), measure({"?0": 1, "m": 2, "=m": 3, "00": 4}))

    def test_the_filling_is_not_changed(self):
        filling = {"b": (("c", 1),), "a": (("b", 2),), "x": ()}
        filled((("a", 1), ("b", 1), ("d", 1)), filling)
        self.assertEqual(list(filling.items()), [("b", (("c", 1),)), ("a", (("b", 2),)), ("x", ())])


if __name__ == "__main__":
    unittest.main()

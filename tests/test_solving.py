"""Points 10 and 11: what letters have to be, or what shows that no choice solves."""

import copy
import random
import time
import unittest

from makings import filled_by, in_all, joined, made_measure
from measurekind.errors import MeasureError, NoFit
from measurekind.solving import solved
from solving_checks import SolvingTest

A, B, C = "=a", "=b", "=c"
M, S = (("m", 1),), (("s", 1),)
LETTERS = ["=" + sign for sign in "abcdefghijklmnopqrstuvwxyz"] + [f"0{number}" for number in range(60)]
OTHERS = ["m", "s", "kg", "a", "=mm", "0100"]
SOON = 10


def chance_powers(chance, letters, most, share=1.0):
    return made_measure({letter: chance.randint(-most, most) for letter in letters if chance.random() < share})


def chance_choice(chance, letters, others):
    return {letter: chance_powers(chance, others, 5, 0.7) for letter in letters}


def made_plain(measure, choice):
    """The measure with others beside, so that the choice solves it."""
    return joined(measure, filled_by(measure, choice), -1)


class Solving(SolvingTest):
    def check(self, measures, letters):
        answer = solved(measures, letters)
        self.check_answer(measures, letters, answer)
        return answer

    def check_told(self, measures, letters, awaited):
        """An answer without unknowns."""
        self.assertEqual(self.check(measures, letters), (awaited, {}))

    def check_no_fit(self, measures, letters):
        with self.assertRaises(MeasureError) as caught:
            solved(measures, letters)
        self.check_shown(measures, letters, caught.exception)
        return caught.exception

    def check_either(self, measures, letters):
        """Whether a choice solves, by what is told itself: each answer shows that it is right."""
        try:
            answer = solved(measures, letters)
        except NoFit as error:
            self.check_shown(measures, letters, error)
            return False
        self.check_answer(measures, letters, answer)
        return True


class FewMeasures(Solving):
    def test_no_measures_and_no_letters(self):
        self.check_told([], [], {})

    def test_no_measures(self):
        for many in (1, 2, 3, 12, 25):
            told, unknowns = self.check([], LETTERS[:many])
            self.assertEqual(len(unknowns), many)
            for choice in ({letter: M for letter in LETTERS[:many]}, {letter: () for letter in LETTERS[:many]}):
                self.check_choice((told, unknowns), choice)

    def test_no_letters(self):
        self.check_told([()], [], {})
        self.check_told([(), (), ()], [], {})
        self.check_no_fit([M], [])
        self.check_no_fit([(), M], [])
        self.check_no_fit([(("=a", 6),), ()], [])

    def test_plain_measures_alone(self):
        _, unknowns = self.check([(), ()], [A, B])
        self.assertEqual(len(unknowns), 2)

    def test_a_letter_that_has_to_be_a_base(self):
        self.check_told([((A, 1), ("m", -1))], [A], {A: M})
        self.check_told([((A, -1), ("m", 1))], [A], {A: M})
        self.check_told([((A, 1), ("m", 1))], [A], {A: (("m", -1),)})
        self.check_told([((A, 1), ("m", -3), ("s", 2))], [A], {A: (("m", 3), ("s", -2))})

    def test_a_letter_that_has_to_be_plain(self):
        for many in (1, -1, 2, -6, 50, 10 ** 30):
            self.check_told([((A, many),)], [A], {A: ()})

    def test_powers_that_divide_without_a_rest(self):
        self.check_told([((A, 2), ("m", -2))], [A], {A: M})
        self.check_told([((A, -2), ("m", 4), ("s", -6))], [A], {A: (("m", 2), ("s", -3))})
        self.check_told([((A, 50), ("m", 50 ** 20))], [A], {A: (("m", -(50 ** 19)),)})

    def test_two_letters_alike(self):
        told, unknowns = self.check([((A, 1), (B, -1))], [A, B])
        self.assertEqual(len(unknowns), 1)
        self.assertEqual(told[A], told[B])
        for measure in (M, (), (("m", 3), ("s", -1))):
            self.check_choice((told, unknowns), {A: measure, B: measure})

    def test_powers_without_a_common_divisor(self):
        answer = self.check([((A, 2), (B, -3))], [A, B])
        self.assertEqual(len(answer[1]), 1)
        self.check_choice(answer, {A: (("m", 3),), B: (("m", 2),)})
        self.check_choice(answer, {A: (("m", -6), ("x", 9)), B: (("m", -4), ("x", 6))})
        answer = self.check([((A, 6), (B, 10), (C, 15), ("m", -1))], [A, B, C])
        self.assertEqual(len(answer[1]), 2)
        self.check_choice(answer, {A: (("m", 1),), B: (("m", 1),), C: (("m", -1),)})

    def test_letters_that_stand_in_no_measure(self):
        answer = self.check([((A, 1), ("m", -1))], [C, A, B])
        self.assertEqual(answer[0][A], M)
        self.assertEqual(len(answer[1]), 2)
        self.check_choice(answer, {A: M, B: (("s", 4),), C: (("=x", -2), ("m", 1))})

    def test_the_same_measure_twice_and_turned(self):
        one = ((A, 2), (B, 1), ("m", -3))
        turned = tuple((letter, -many) for letter, many in one)
        self.assertEqual(len(self.check([one, one, turned, ()], [A, B])[1]), 1)

    def test_measures_that_settle_all(self):
        self.check_told([((A, 1), (B, 1), ("m", -3)), ((A, 1), (B, -1), ("m", -1))], [A, B], {A: (("m", 2),), B: M})
        self.check_told(
            [((A, 2), (B, 3), ("m", -1)), ((A, 3), (B, 5), ("s", -1))], [B, A],
            {A: (("m", 5), ("s", -3)), B: (("m", -3), ("s", 2))})

    def test_others_that_stand_in_one_measure_only(self):
        self.check_told(
            [((A, 1), ("m", -1)), ((A, 1), (B, 1), ("s", -1))], [A, B], {A: M, B: (("m", -1), ("s", 1))})


class LettersOfAllKinds(Solving):
    def test_each_kind(self):
        for letter in ("m", "abcdefgh", "=m", "=abcdefgh", "00", "07", "0123"):
            for other in ("s", "=s", "=abcdefg", "01", "012"):
                with self.subTest(letter=letter, other=other):
                    measure = made_measure({letter: 1, other: -2})
                    self.check_told([measure], [letter], {letter: ((other, 2),)})
                    self.check_no_fit([measure], [other])

    def test_alike_but_for_a_sign(self):
        measure = (("=m", 1), ("m", -1))
        self.check_told([measure], ["=m"], {"=m": M})
        self.check_told([measure], ["m"], {"m": (("=m", 1),)})
        self.assertEqual(len(self.check([measure], ["m", "=m"])[1]), 1)
        measure = (("01", 1), ("012", -3))
        self.check_told([measure], ["01"], {"01": (("012", 3),)})
        self.assertEqual(len(self.check([measure], ["012", "01"])[1]), 1)
        measure = (("=ab", 2), ("=abc", -1), ("ab", -1), ("b", 5))
        self.check_told([measure], ["ab"], {"ab": (("=ab", 2), ("=abc", -1), ("b", 5))})

    def test_many(self):
        chance = random.Random(1010)
        pool = ["m", "=m", "00", "s", "=s", "01", "010", "mm", "=mm", "abcdefgh"]
        open_ones = 0
        for _ in range(400):
            chance.shuffle(pool)
            letters, others = pool[:chance.randrange(6)], pool[6:]
            choice = chance_choice(chance, letters, others)
            measures = [
                made_plain(chance_powers(chance, letters, 4, 0.6), choice) for _ in range(chance.randrange(4))]
            answer = self.check(measures, letters)
            self.check_choice(answer, choice)
            open_ones += len(answer[1]) > 0
        self.assertGreater(open_ones, 50)


class ChoicesThatSolve(Solving):
    """Measures made from a choice: the choice has to be a filling of what is told."""

    def check_made(self, chance, many, count, most, share):
        letters = chance.sample(LETTERS[:30], many)
        choice = chance_choice(chance, letters, OTHERS)
        measures = [made_plain(chance_powers(chance, letters, most, share), choice) for _ in range(count)]
        answer = self.check(measures, letters)
        self.check_choice(answer, choice)
        return answer

    def test_none_to_twenty_five_letters_and_none_to_five_measures(self):
        chance = random.Random(10)
        for many in range(26):
            for count in range(6):
                answer = self.check_made(chance, many, count, 3, 0.5)
                self.assertGreaterEqual(len(answer[1]), many - count)

    def test_powers_to_fifty_either_way(self):
        chance = random.Random(50)
        for _ in range(150):
            self.check_made(chance, chance.randrange(26), chance.randrange(6), 50, chance.random())

    def test_powers_far_above(self):
        chance = random.Random(51)
        for most in (10 ** 3, 10 ** 12, 10 ** 40):
            for _ in range(12):
                self.check_made(chance, chance.randrange(12), chance.randrange(6), most, chance.random())

    def test_as_many_measures_as_letters_and_more(self):
        chance = random.Random(52)
        for _ in range(150):
            many = chance.randrange(1, 8)
            self.check_made(chance, many, many + chance.randrange(-1, 4), 6, chance.random())

    def test_rows_that_depend_on_one_another(self):
        chance = random.Random(53)
        for _ in range(200):
            letters = LETTERS[:chance.randrange(1, 7)]
            choice = chance_choice(chance, letters, OTHERS)
            rows = [made_plain(chance_powers(chance, letters, 5, 0.7), choice) for _ in range(2)]
            for _ in range(3):
                rows.append(in_all(rows[:2], [chance.randint(-4, 4), chance.randint(-4, 4)]))
            chance.shuffle(rows)
            answer = self.check(rows, letters)
            self.check_choice(answer, choice)
            self.assertGreaterEqual(len(answer[1]), len(letters) - 2)

    def test_choices_beside_the_one_that_made_them(self):
        chance = random.Random(54)
        for _ in range(150):
            letters = LETTERS[:chance.randrange(2, 7)]
            choice = chance_choice(chance, letters, OTHERS)
            measures = [made_plain(chance_powers(chance, letters, 4, 0.6), choice) for _ in range(2)]
            told, unknowns = self.check(measures, letters)
            # Any filling of the unknowns is a choice that solves, and comes back from itself.
            filling = {unknown: chance_powers(chance, OTHERS + ["zz"], 9) for unknown in unknowns}
            found = {letter: filled_by(measure, filling) for letter, measure in told.items()}
            for measure in measures:
                self.assertEqual(filled_by(measure, found), ())
            self.check_choice((told, unknowns), found)
            for unknown, measure in unknowns.items():
                self.assertEqual(filled_by(measure, found), filling[unknown])


class NoChoiceSolves(Solving):
    def check_squared(self, measures, letters, numbers, by):
        error = self.check_no_fit(measures, letters)
        self.assertEqual(error.by, by)
        self.assertEqual([n % by for n in error.times], numbers)

    def test_others_alone(self):
        for many in (1, -1, 2, -6, 12, 50, 2520, 10 ** 40):
            for letters in ([], [A], [A, B, "00"]):
                self.check_no_fit([(("m", many),)], letters)
                self.check_no_fit([(("=b", -1), ("m", many))], [A])
        self.check_no_fit([((A, 1), ("m", 1)), (("m", 2), ("s", -4))], [A])
        self.check_no_fit([(("m", 6), ("s", 35))], [A])

    def test_two_that_contradict_each_other(self):
        self.check_no_fit([((A, 1), ("m", -1)), ((A, 1), ("s", -1))], [A])
        self.check_no_fit([((A, 1), ("m", -1)), ((A, 1), ("m", -2))], [A])
        self.check_no_fit([((A, 1), ("m", -1)), ((A, 2), ("m", -1))], [A])
        self.check_no_fit([((A, 2), ("m", -2)), ((A, 3), ("m", -2))], [A])
        self.check_no_fit([((A, 1), ("m", -1)), ((A, 1),)], [A])
        self.check_no_fit([((A, 1), (B, 1)), ((A, 2), (B, 2), ("m", 6))], [A, B])
        self.check_no_fit([((A, 2), (B, 2)), ((A, 3), (B, 3), ("m", 12))], [A, B])
        self.check_no_fit([((A, 6),), ((A, 4), ("m", 6))], [A])

    def test_a_letter_squared_that_has_to_be_a_base(self):
        self.check_squared([((A, 2), ("m", -1))], [A], [1], 2)
        self.check_squared([((A, -2), ("m", 1))], [A], [1], 2)
        self.check_squared([((A, 2), ("m", -2), ("s", 3))], [A], [1], 2)
        self.check_squared([((A, 3), ("m", 1))], [A], [1], 3)
        self.check_squared([((B, 1), ("m", -1)), ((A, 2), ("m", -1)), ((C, 1),)], [A, B, C], [0, 1, 0], 2)

    def test_a_common_divisor_that_the_others_have_not(self):
        for powers in ((2, 4), (6, 10), (-6, 9), (50, 35), (4, -4), (10 ** 20, 15)):
            for many in (1, -1, 7, 11):
                self.check_no_fit([((A, powers[0]), (B, powers[1]), ("m", many))], [A, B])
        self.check_no_fit([((A, 6), (B, 10), (C, 14), ("m", 4), ("s", 3))], [A, B, C])
        self.check_no_fit([((A, 4), (B, 8), ("m", 2))], [A, B])

    def test_a_common_divisor_behind_several_measures(self):
        self.check_no_fit([((A, 1), (B, 1), ("m", -1)), ((A, 1), (B, -1))], [A, B])
        self.check_no_fit([((A, 1), (B, 2), ("m", -1)), ((A, 2), (B, 1), ("m", -1))], [A, B])
        self.check_no_fit([((A, 1), (B, 1)), ((B, 1), (C, 1)), ((A, 1), (C, 1), ("m", -1))], [A, B, C])
        self.check_no_fit([((A, 2), (B, 3)), ((B, 5), (C, 7)), ((A, 1), (C, 1), ("m", 1))], [A, B, C])
        self.check_no_fit(
            [((A, 3), (B, 1), ("m", -1)), ((B, 3), (C, 1)), ((A, -1), (C, 3), ("s", 1))], [A, B, C])

    def test_rows_that_depend_on_one_another(self):
        chance = random.Random(11)
        for _ in range(200):
            letters = LETTERS[:chance.randrange(1, 7)]
            choice = chance_choice(chance, letters, ["m", "s"])
            rows = [made_plain(chance_powers(chance, letters, 5, 0.7), choice) for _ in range(2)]
            for _ in range(2):
                rows.append(in_all(rows[:2], [chance.randint(-4, 4), chance.randint(-4, 4)]))
            rows[3] = joined(rows[3], (("m", chance.choice([1, -1, 2, 6, 60])),), 1)
            chance.shuffle(rows)
            self.check_no_fit(rows, letters)

    def test_many_with_a_hidden_divisor(self):
        chance = random.Random(12)
        met = 0
        for _ in range(200):
            letters = LETTERS[:chance.randrange(2, 8)]
            choice = chance_choice(chance, letters, ["m", "s"])
            by = chance.choice([2, 3, 4, 6, 25])
            parts = [chance_powers(chance, letters, 5, 0.8) for _ in range(chance.randrange(1, 4))]
            numbers = [chance.randint(-3, 3) for _ in parts] + [1]
            # The last one is made so that in all together each letter's power is divided by by.
            whole = joined((), chance_powers(chance, letters, 3), by)
            parts.append(joined(whole, in_all(parts, numbers[:-1]), -1))
            rows = [made_plain(part, choice) for part in parts]
            at = chance.randrange(len(rows))
            if numbers[at] % by:
                rows[at] = joined(rows[at], M, 1)
                self.check_no_fit(rows, letters)
                met += 1
        self.assertGreater(met, 100)

    def test_any_measures(self):
        chance = random.Random(13)
        met = {True: 0, False: 0}
        for _ in range(1500):
            letters = chance.sample(LETTERS[:8], chance.randrange(7))
            others = OTHERS[:chance.randrange(3)]
            most = chance.choice([1, 2, 4, 50])
            rows = [chance_powers(chance, letters + others, most, chance.random()) for _ in range(chance.randrange(6))]
            met[self.check_either(rows, letters)] += 1
        self.assertGreater(min(met.values()), 300)


class LeftAlone(Solving):
    def test_nothing_is_changed(self):
        measures = [((A, 2), (B, -3), ("m", 1)), ((A, 4), (C, 1)), ()]
        letters = [C, B, A, "00"]
        ahead = copy.deepcopy((measures, letters))
        for _ in range(2):
            self.check(measures, letters)
            self.assertEqual((measures, letters), ahead)
        measures.append((("m", 1),))
        self.check_no_fit(measures, letters)
        self.assertEqual((measures[:3], letters), ahead)
        self.assertEqual(measures[3:], [M])

    def test_what_is_told_is_the_askers_own(self):
        measures, letters = [((A, 1), (B, -1))], [A, B, C]
        first, second = solved(measures, letters), solved(measures, letters)
        first[0].clear()
        first[1].clear()
        self.check_answer(measures, letters, second)
        self.check(measures, letters)
        first, second = self.check_no_fit([M], [A]), self.check_no_fit([M], [A])
        first.times.clear()
        self.check_shown([M], [A], second)
        self.check_no_fit([M], [A])


class Soon(Solving):
    def timed(self, measures, letters):
        begun = time.process_time()
        fits = self.check_either(measures, letters)
        self.assertLess(time.process_time() - begun, SOON)
        return fits

    def test_twenty_five_letters(self):
        chance = random.Random(14)
        for most in (3, 50, 10 ** 30):
            for count in (5, 12, 24, 25, 30):
                if count == 5 or most <= 50:
                    letters = LETTERS[:25]
                    rows = [chance_powers(chance, letters + OTHERS, most) for _ in range(count)]
                    fits = self.timed(rows, letters)
                    if count != 24:
                        self.assertEqual(fits, count < 24)

    def test_many_more(self):
        chance = random.Random(15)
        letters = LETTERS[:75]
        for count, share in ((48, 0.05), (48, 0.3), (70, 0.05)):
            choice = chance_choice(chance, letters, OTHERS)
            rows = [made_plain(chance_powers(chance, letters, 16, share), choice) for _ in range(count)]
            self.assertTrue(self.timed(rows, letters))
            self.assertFalse(self.timed([*rows, in_all([rows[0], rows[3], M], [2, -3, 1])], letters))

    def test_a_chain_of_powers(self):
        letters = LETTERS[:25]
        rows = [made_measure({one: 49, other: -50}) for one, other in zip(letters, letters[1:])]
        self.assertTrue(self.timed(rows, letters))
        self.assertFalse(self.timed([*rows, ((letters[12], 1), ("m", 1))], letters))


if __name__ == "__main__":
    unittest.main()

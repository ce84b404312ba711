"""What points 10 and 11 ask of each answer, for the tests of solved and of widest."""

import re
import unittest

from makings import filled_by, in_all
from measurekind.errors import NoFit

UNKNOWN = re.compile(r"\?(0|[1-9][0-9]*)", re.ASCII)


def unknowns_in(measures):
    return {letter for measure in measures for letter, _ in measure if letter.startswith("?")}


class SolvingTest(unittest.TestCase):
    def check_form(self, measure):
        self.assertIs(type(measure), tuple)
        for pair in measure:
            self.assertIs(type(pair), tuple)
            letter, many = pair
            self.assertEqual((type(letter), type(many)), (str, int))
            self.assertNotEqual(many, 0)
        letters = [letter for letter, _ in measure]
        self.assertEqual(letters, sorted(set(letters)))

    def check_answer(self, measures, letters, answer):
        """All of point 10 but for the choices that solve."""
        self.assertIs(type(answer), tuple)
        told, unknowns = answer
        self.assertEqual((type(told), type(unknowns)), (dict, dict))
        self.assertEqual(sorted(told), sorted(letters))
        others = {letter for measure in measures for letter, _ in measure} - set(letters)
        for measure in told.values():
            self.check_form(measure)
            for letter, _ in measure:
                self.assertTrue(letter in others or UNKNOWN.fullmatch(letter), letter)
        self.assertEqual(set(unknowns), unknowns_in(told.values()))
        for unknown, measure in unknowns.items():
            self.check_form(measure)
            self.assertLessEqual({letter for letter, _ in measure}, set(letters))
            self.assertEqual(filled_by(measure, told), ((unknown, 1),))
        for measure in measures:
            self.assertEqual(filled_by(measure, told), ())

    def check_choice(self, answer, choice):
        """What point 10 says of a choice that solves."""
        told, unknowns = answer
        filling = {unknown: filled_by(measure, choice) for unknown, measure in unknowns.items()}
        for letter, measure in told.items():
            self.assertEqual(filled_by(measure, filling), choice[letter])

    def check_shown(self, measures, letters, error):
        """All of point 11: it shows that no choice solves."""
        self.assertIs(type(error), NoFit)
        self.assertIs(type(error.times), list)
        self.assertEqual([type(n) for n in error.times], [int] * len(measures))
        self.assertIs(type(error.by), int)
        self.assertGreaterEqual(error.by, 2)
        left = [letter for letter, many in in_all(measures, error.times) if many % error.by != 0]
        self.assertNotEqual(left, [])
        self.assertEqual(set(left) & set(letters), set())

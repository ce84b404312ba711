"""Point "The interface", measurekind/errors.py: each class's place, and NoFit's values."""

import unittest

from measurekind.errors import ByNought, MeasureError, NoFit, NoValue, Unlike

UNDER = [NoFit, Unlike, NoValue, ByNought]


def made(kind):
    return kind([1, -2], 3) if kind is NoFit else kind("told")


class Places(unittest.TestCase):
    def test_the_top_one_is_a_value_error(self):
        self.assertEqual(MeasureError.__bases__, (ValueError,))

    def test_each_is_a_measure_error_and_a_value_error(self):
        for kind in UNDER:
            with self.subTest(kind=kind.__name__):
                for caught in (kind, MeasureError, ValueError):
                    with self.assertRaises(caught):
                        raise made(kind)

    def test_none_is_under_another(self):
        for kind in UNDER:
            for other in UNDER:
                if kind is not other:
                    with self.subTest(kind=kind.__name__, other=other.__name__):
                        self.assertFalse(issubclass(kind, other))
                        self.assertNotIsInstance(made(kind), other)

    def test_the_top_one_is_not_one_of_those_under_it(self):
        for kind in UNDER:
            self.assertFalse(issubclass(MeasureError, kind))


class NoFitValues(unittest.TestCase):
    def test_both_are_set_when_it_is_made(self):
        found = NoFit([1, -2, 0], 7)
        self.assertEqual(found.times, [1, -2, 0])
        self.assertIs(type(found.times), list)
        self.assertEqual(found.by, 7)
        self.assertIs(type(found.by), int)

    def test_they_may_be_given_by_name(self):
        found = NoFit(by=2, times=[5])
        self.assertEqual((found.times, found.by), ([5], 2))

    def test_both_are_needed(self):
        for given in ((), ([1],)):
            with self.assertRaises(TypeError):
                NoFit(*given)

    def test_they_come_with_the_caught_error(self):
        with self.assertRaises(MeasureError) as caught:
            raise NoFit([10 ** 30], 10 ** 20)
        self.assertEqual(caught.exception.times, [10 ** 30])
        self.assertEqual(caught.exception.by, 10 ** 20)

    def test_the_list_is_the_error_s_own(self):
        given = [1, 2]
        one, other = NoFit(given, 2), NoFit(given, 2)
        one.times.append(3)
        self.assertEqual(given, [1, 2])
        self.assertEqual(other.times, [1, 2])
        given.append(4)
        self.assertEqual(other.times, [1, 2])

    def test_an_empty_list(self):
        self.assertEqual(NoFit([], 2).times, [])


if __name__ == "__main__":
    unittest.main()

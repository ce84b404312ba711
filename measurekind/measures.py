"""Measures: tuples of pairs (letter, power), letters rising, no power nought."""


def times(one, other):
    """Tells the measure that has the powers of both added."""
    return gathered([(one, 1), (other, 1)])


def over(one, other):
    """Tells the measure that has the powers of the other taken away."""
    return gathered([(one, 1), (other, -1)])


def power(one, n):
    """Tells the measure that has all powers n times."""
    return gathered([(one, n)])


def filled(measure, filling):
    """Tells the measure with the letters of the filling replaced, all at once."""
    return gathered([(filling.get(letter, ((letter, 1),)), many) for letter, many in measure])


def gathered(parts):
    """Tells the product of measures; parts: a list of pairs (measure, to which power)."""
    powers = {}
    for measure, n in parts:
        for letter, many in measure:
            powers[letter] = powers.get(letter, 0) + many * n
    return tuple(sorted([(letter, many) for letter, many in powers.items() if many != 0]))

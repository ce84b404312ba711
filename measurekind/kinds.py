"""Kinds: the widest measures that the inputs and noughts of a reckoning may have."""

from measurekind.fitting import alike, measure_by
from measurekind.letters import input_letters, nought_letters
from measurekind.solving import solved


def widest(reckoning):
    """Tells a tuple (names, noughts, whole, unknowns); NoFit where no choice fits."""
    name_letters = input_letters(reckoning)
    number_letters = nought_letters(reckoning)
    told, unknowns = solved(alike(reckoning), list(name_letters.values()) + number_letters)
    names = {name: told[letter] for name, letter in name_letters.items()}
    noughts = [told[letter] for letter in number_letters]
    return (names, noughts, measure_by(reckoning, names, noughts), unknowns)

"""The letters that stand for the measures of a reckoning's inputs and noughts."""

from measurekind.reckonings import inputs, noughts


def input_letters(reckoning):
    """Tells a dict: the name of each input, rising, with its letter."""
    return {name: "=" + name for name in inputs(reckoning)}


def nought_letters(reckoning):
    """Tells the list of the letters of the noughts, in the order of their numbers."""
    return ["0" + str(number) for number in range(noughts(reckoning))]

"""Units: what becomes of numbers, reckonings and values where measures are told in other units."""

from measurekind.errors import NoValue
from measurekind.fractions import product, raised
from measurekind.reckonings import parts


def scale(measure, units):
    """Tells the product of each letter's unit to its power; NoValue where a letter has none."""
    # Ahead of all else, as a power may take long to work out.
    for letter, _ in measure:
        if letter not in units:
            raise NoValue(f"the letter {letter} has no unit")
    told = (1, 1)
    for letter, many in measure:
        told = product(told, raised(units[letter], many))
    return told


def retold(reckoning, units):
    """Tells the same reckoning, but each number multiplied by its measure's scale."""
    if reckoning[0] == "is":
        return ("is", product(reckoning[1], scale(reckoning[2], units)), reckoning[2])
    told = tuple([retold(part, units) for part in parts(reckoning)])
    return reckoning[:1] + told + reckoning[1 + len(told):]


def rescaled(values, names, units):
    """Tells a dict: each name of names with its value multiplied by its measure's scale."""
    for name in names:
        if name not in values:
            raise NoValue(f"the input {name} has no value")
    return {name: product(values[name], scale(measure, units)) for name, measure in names.items()}

"""What is alike: measures of reckonings by a choice, and what a choice has to fit."""

from measurekind.errors import Unlike
from measurekind.letters import input_letters, nought_letters
from measurekind.measures import over, power, times
from measurekind.reckonings import parts


def measure_by(reckoning, names, noughts):
    """Tells the reckoning's measure by a choice; Unlike where the choice does not fit."""
    measure, pairs = _looked_through(reckoning, names, noughts)
    for one, other in pairs:
        if one != other:
            # The measures stay out of the text: a power may be too long to be written in figures.
            raise Unlike("two measures that have to be alike are not")
    return measure


def measure_of(reckoning):
    """Tells the reckoning's measure by the choice of the letters of its inputs and noughts."""
    return _by_letters(reckoning)[0]


def alike(reckoning):
    """Tells the list of measures that have to be (), in the letters of inputs and noughts."""
    return [over(one, other) for one, other in _by_letters(reckoning)[1]]


def _by_letters(reckoning):
    """Tells the measure and the pairs by the choice of a letter for each input and nought."""
    names = {name: ((letter, 1),) for name, letter in input_letters(reckoning).items()}
    noughts = [((letter, 1),) for letter in nought_letters(reckoning)]
    return _looked_through(reckoning, names, noughts)


def _looked_through(reckoning, names, noughts):
    """Tells the measure by a choice, and the list of the pairs of measures that have to be alike.

    Of two that have to be alike, the first one's measure goes on.
    """
    pairs = []
    # A copy, as the measures of the noughts are taken off it, one for each nought that is met.
    measure = _measure(reckoning, names, list(noughts), pairs)
    return measure, pairs


def _measure(reckoning, names, left, pairs):
    """Tells the measure; takes those of its noughts off left, and adds to pairs what has to be alike."""
    kind = reckoning[0]
    if kind == "is":
        return reckoning[2]
    if kind == "nought":
        return left.pop(0)
    if kind == "input":
        return names[reckoning[1]]
    told = []
    for part in parts(reckoning):
        told.append(_measure(part, names, left, pairs))
    if kind == "power":
        return power(told[0], reckoning[2])
    if kind == "times":
        return times(told[0], told[1])
    if kind == "over":
        return over(told[0], told[1])
    pairs.append((told[0], told[1]))
    if kind == "less":
        pairs.append((told[2], told[3]))
        return told[2]
    return told[0]

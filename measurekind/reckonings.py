"""Reckonings: what is one, and what stands in it."""

from math import gcd

# Of each form: how many reckonings stand in it, all right behind its first text.
PARTS = {
    "is": 0, "nought": 0, "input": 0, "plus": 2, "minus": 2, "times": 2, "over": 2, "power": 1, "less": 4,
}
# Of each form: how long its tuple is.
LENGTHS = {
    "is": 3, "nought": 1, "input": 2, "plus": 3, "minus": 3, "times": 3, "over": 3, "power": 3, "less": 5,
}
MOST_DEEP = 12
MOST_IN_ALL = 100
# A power itself counts, too.
MOST_POWERS_ON_A_WAY = 2
MOST_NUMBER = 10 ** 9
MOST_LETTERS = 6
MOST_SIGNS = 8
MOST_LETTER_POWER = 20
MOST_RAISED = 4


def is_reckoning(thing):
    """Tells of any thing whether it is a reckoning: True or False."""
    # Depth by depth, so that it ends soon and without error however deep or large the thing is.
    layer = [(thing, 0)]
    deep = 0
    many = 0
    while layer:
        deep += 1
        many += len(layer)
        if deep > MOST_DEEP or many > MOST_IN_ALL:
            return False
        below = []
        for part, powers in layer:
            if not _has_form(part):
                return False
            met = powers + 1 if part[0] == "power" else powers
            if met > MOST_POWERS_ON_A_WAY:
                return False
            below.extend([(inner, met) for inner in parts(part)])
        layer = below
    return True


def inputs(reckoning):
    """Tells the list of the names of the inputs, rising, each once."""
    return sorted({part[1] for part in all_parts(reckoning) if part[0] == "input"})


def noughts(reckoning):
    """Tells how many noughts stand in the reckoning."""
    return len([part for part in all_parts(reckoning) if part[0] == "nought"])


def parts(reckoning):
    """Tells the tuple of the reckonings that stand in it, without those within these."""
    return reckoning[1:1 + PARTS[reckoning[0]]]


def all_parts(reckoning):
    """Tells the list of itself and all within, each as often as it stands, from left to right."""
    told = [reckoning]
    for part in parts(reckoning):
        told.extend(all_parts(part))
    return told


def _has_form(thing):
    """Tells whether the thing is a reckoning but for its parts, which may be anything."""
    # Of what is no text nothing more is asked: it may have no hash, or compare with an error.
    if type(thing) != tuple or len(thing) == 0 or type(thing[0]) != str:
        return False
    kind = thing[0]
    if LENGTHS.get(kind) != len(thing):
        return False
    if kind == "is":
        return _is_number(thing[1]) and _is_measure(thing[2])
    if kind == "input":
        return _is_name(thing[1])
    if kind == "power":
        return _is_whole(thing[2], -MOST_RAISED, MOST_RAISED)
    return True


def _is_number(thing):
    """Tells whether the thing is a fraction within the bounds of an is."""
    if type(thing) != tuple or len(thing) != 2:
        return False
    above, below = thing
    if not _is_whole(above, -MOST_NUMBER, MOST_NUMBER) or not _is_whole(below, 1, MOST_NUMBER):
        return False
    return gcd(above, below) == 1


def _is_measure(thing):
    """Tells whether the thing is a measure of bases within the bounds of an is."""
    if type(thing) != tuple or len(thing) > MOST_LETTERS:
        return False
    for pair in thing:
        if not _is_pair(pair):
            return False
    letters = [pair[0] for pair in thing]
    return letters == sorted(set(letters))


def _is_pair(thing):
    """Tells whether the thing is a base with a power that it may have."""
    if type(thing) != tuple or len(thing) != 2 or not _is_name(thing[0]):
        return False
    return _is_whole(thing[1], -MOST_LETTER_POWER, MOST_LETTER_POWER) and thing[1] != 0


def _is_name(thing):
    """Tells whether the thing is a name: a base or an input has such a one."""
    if type(thing) != str or not 1 <= len(thing) <= MOST_SIGNS:
        return False
    return all("a" <= sign <= "z" for sign in thing)


def _is_whole(thing, low, high):
    """Tells whether the thing is a whole number from low to high; True and False are none."""
    return type(thing) == int and low <= thing <= high

"""Reckonings for the tests: short ways to write them, and ones made by chance."""

import fractions

ONE = (1, 1)


def number(above, below=1, measure=()):
    known = fractions.Fraction(above, below)
    return ("is", (known.numerator, known.denominator), measure)


def inp(name):
    return ("input", name)


NOUGHT = ("nought",)
PLAIN = number(1)
METRE = number(1, 1, (("m", 1),))
SECOND = number(1, 1, (("s", 1),))
TWOS = ("plus", "minus", "times", "over")


def within(reckoning):
    """The reckonings that stand in it, told apart by what they are and not by where they stand."""
    return [part for part in reckoning[1:] if reckoning[0] != "is" and isinstance(part, tuple)]


def walk(reckoning):
    yield reckoning
    for part in within(reckoning):
        yield from walk(part)


def paired(kind, parts):
    """All parts in one reckoning, about as deep everywhere."""
    while len(parts) > 1:
        pairs = [(kind, one, other) for one, other in zip(parts[::2], parts[1::2])]
        parts = pairs + parts[2 * len(pairs):]
    return parts[0]


def chance_measure(chance, most=2):
    letters = sorted(chance.sample(["k", "m", "s"], chance.randrange(most + 1)))
    return tuple((letter, chance.choice([-2, -1, 1, 2])) for letter in letters)


def chance_leaf(chance):
    kind = chance.randrange(4)
    if kind == 0:
        return NOUGHT
    if kind == 1:
        return number(chance.randrange(-3, 4), chance.randrange(1, 4), chance_measure(chance))
    return inp(chance.choice(["a", "b", "c", "m", "s"]))


def chance_reckoning(chance, deep, powers=2):
    """A reckoning at most so deep, whose measures fit or, more often, don't."""
    if deep == 1 or chance.randrange(6) == 0:
        return chance_leaf(chance)
    kind = chance.choice(TWOS + ("less", "power"))
    if kind == "power" and powers:
        return ("power", chance_reckoning(chance, deep - 1, powers - 1), chance.randrange(-4, 5))
    many = 4 if kind == "less" else 2
    kind = "plus" if kind == "power" else kind
    return (kind, *(chance_reckoning(chance, deep - 1, powers) for _ in range(many)))


def made_measure(powers):
    return tuple(sorted((letter, many) for letter, many in powers.items() if many))


def joined(one, other, n):
    """The measure one times the other to the power n, worked out apart from the program."""
    powers = dict(one)
    for letter, many in other:
        powers[letter] = powers.get(letter, 0) + n * many
    return made_measure(powers)


def chance_fitting(chance, deep, target, names, noughts):
    """A reckoning of the measure target by a choice that is put into names and noughts as it is made."""
    kind = chance.choice(TWOS + ("less", "power", "leaf"))
    if kind == "power" and deep > 1:
        n = chance.choice([n for n in (-2, -1, 1, 2, 3) if all(many % n == 0 for _, many in target)])
        root = made_measure({letter: many // n for letter, many in target})
        return ("power", chance_fitting(chance, deep - 1, root, names, noughts), n)
    if kind in ("leaf", "power") or deep == 1:
        return chance_fitting_leaf(chance, target, names, noughts)
    targets = [target, target]
    if kind in ("times", "over"):
        other = chance_measure(chance)
        targets = [joined(target, other, -1 if kind == "times" else 1), other]
    if kind == "less":
        other = chance_measure(chance)
        targets = [other, other, target, target]
    return (kind, *[chance_fitting(chance, deep - 1, one, names, noughts) for one in targets])


def chance_fitting_leaf(chance, target, names, noughts):
    kind = chance.randrange(3)
    if kind == 0:
        noughts.append(target)
        return NOUGHT
    if kind == 1:
        return number(chance.randrange(-9, 10), chance.randrange(1, 10), target)
    known = [name for name, measure in names.items() if measure == target]
    name = chance.choice(known + ["abcdefghijklmnopqrstuvwxyz"[len(names) % 26] * (1 + len(names) // 26)])
    names[name] = target
    return inp(name)


def filled_by(measure, filling):
    """The measure with each letter of the filling replaced, worked out apart from the program."""
    told = ()
    for letter, many in measure:
        told = joined(told, filling.get(letter, ((letter, 1),)), many)
    return told


def in_all(measures, numbers):
    """The product of the measures, each to the power of its number."""
    told = ()
    for measure, n in zip(measures, numbers, strict=True):
        told = joined(told, measure, n)
    return told

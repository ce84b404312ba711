"""Solving: what letters have to be so that all of some measures are those of plain numbers."""

from math import lcm

from measurekind.errors import NoFit
from measurekind.fractions import added, product, quotient
from measurekind.measures import gathered


class Unknown:
    """What is still open; two lists with a number for each letter.

    stands: its power in what is told of the letter; made: the letter's power in its own measure.
    """

    def __init__(self, place, many):
        self.stands = [1 if at == place else 0 for at in range(many)]
        self.made = list(self.stands)


class Settled:
    """What was an unknown until a measure, that of this number, had it alone, to the power share.

    stands: its power in what is told of each letter; measure: what it has to be, of other letters.
    """

    def __init__(self, number, stands, share, measure):
        self.number = number
        self.stands = stands
        self.share = share
        self.measure = measure


def solved(measures, letters):
    """Tells a tuple (told, unknowns) of two dicts; NoFit where no choice solves the measures."""
    rows = [_powers_of(measure, letters) for measure in measures]
    unknowns = [Unknown(place, len(letters)) for place in range(len(letters))]
    settled = []
    for number, row in enumerate(rows):
        share = _brought_together(row, unknowns)
        rest = _rest(measures[number], letters, row, settled)
        by = _hindrance(rest, share)
        if by != 0:
            counts, by = _shown(rows, settled, number, by)
            raise NoFit(counts, by)
        if share != 0:
            measure = tuple([(letter, many // -share) for letter, many in rest])
            settled.append(Settled(number, unknowns.pop().stands, share, measure))
    names = ["?" + str(number) for number in range(len(unknowns))]
    told = _told(letters, settled, unknowns, names)
    return (told, {name: _measure(letters, unknown.made) for name, unknown in zip(names, unknowns)})


def _powers_of(measure, letters):
    """Tells the list of the powers that the letters have in the measure."""
    powers = {letter: many for letter, many in measure}
    return [powers.get(letter, 0) for letter in letters]


def _measure(letters, powers):
    """Tells the measure that has the letters, each to its power."""
    return gathered([(((letter, 1),), many) for letter, many in zip(letters, powers)])


def _summed(row, stands):
    """Tells the power in a measure of what stands so in the letters, row being their powers there."""
    return sum([many * n for many, n in zip(row, stands) if many != 0])


def _brought_together(row, unknowns):
    """Changes the unknowns so that the last of them at most stands in a measure; tells its power there.

    row: the powers of the letters in the measure.
    """
    powers = [_summed(row, unknown.stands) for unknown in unknowns]
    left = [at for at, many in enumerate(powers) if many != 0]
    # The least power is taken off all others at once, not off one after the other:
    # so the numbers in the unknowns stay short, however many measures there are.
    while len(left) > 1:
        least = min(left, key=lambda place: abs(powers[place]))
        for at in left:
            if at != least:
                n = _nearest(powers[at], powers[least])
                powers[at] = powers[at] - n * powers[least]
                _shift(unknowns[at], unknowns[least], n)
        left = [at for at in left if powers[at] != 0]
    if len(left) == 0:
        return 0
    unknowns.append(unknowns.pop(left[0]))
    return powers[left[0]]


def _nearest(above, below):
    """Tells a whole number that is nearest to above over below."""
    return (2 * above + below) // (2 * below)


def _shift(one, other, n):
    """Lets the other unknown be what it is times the one to the power n; what is told stays the same."""
    one.stands = [many - n * less for many, less in zip(one.stands, other.stands)]
    other.made = [many + n * more for many, more in zip(other.made, one.made)]


def _rest(measure, letters, row, settled):
    """Tells what the measure is beside its unknowns, once what is settled is filled in."""
    others = tuple([(letter, many) for letter, many in measure if letter not in letters])
    return gathered([(others, 1)] + [(one.measure, _summed(row, one.stands)) for one in settled])


def _hindrance(rest, share):
    """Tells 0 where an unknown to the power share can make the rest plain, share 0 being none.

    Else a number from 2 on that divides share, but not the power of each letter of the rest.
    """
    for _, many in rest:
        if share == 0:
            return _least_not_dividing(many)
        if many % share != 0:
            return abs(share)
    return 0


def _least_not_dividing(number):
    """Tells the least number from 2 on that does not divide the number, which is not nought."""
    by = 2
    while number % by == 0:
        by += 1
    return by


def _shown(rows, settled, number, by):
    """Tells times and by of NoFit, where the measure of this number can't be made plain for by."""
    # Each measure is taken to a fraction of its power: this one to 1 over by, and each
    # ahead so that in all what it settled stands a whole number of times. Whole numbers
    # change nothing of that, so they are left out.
    shares = {number: (1, by)}
    for one in reversed(settled):
        total = (0, 1)
        for at, share in shares.items():
            total = added(total, product(share, (_summed(rows[at], one.stands), 1)))
        above, below = quotient(total, (-one.share, 1))
        shares[one.number] = (above % below, below)
    whole = 1
    for _, below in shares.values():
        whole = lcm(whole, below)
    counts = [0 for _ in rows]
    for at, (above, below) in shares.items():
        counts[at] = above * (whole // below)
    return (counts, whole)


def _told(letters, settled, unknowns, names):
    """Tells a dict: each letter with its measure, of other letters and of the names of the unknowns."""
    told = {}
    for place, letter in enumerate(letters):
        parts = [(one.measure, one.stands[place]) for one in settled]
        parts.append((_measure(names, [unknown.stands[place] for unknown in unknowns]), 1))
        told[letter] = gathered(parts)
    return told

"""Fractions: tuples (above, below) in lowest terms, below from 1 on."""

from math import gcd

from measurekind.errors import ByNought


def fraction(above, below):
    """Tells the fraction of two whole numbers; ByNought where below is 0."""
    if below == 0:
        raise ByNought("a fraction has 0 below")
    shared = gcd(above, below)
    if below < 0:
        shared = -shared
    return (above // shared, below // shared)


def added(one, other):
    """Tells one and the other together."""
    return _together(one, other[0], other[1])


def lessened(one, other):
    """Tells one less the other."""
    return _together(one, -other[0], other[1])


def product(one, other):
    """Tells one times the other."""
    # What is divided out on either way across is all that there is, as both are in lowest
    # terms; it is found sooner there than in the long numbers of the answer.
    falling = gcd(one[0], other[1])
    rising = gcd(other[0], one[1])
    return ((one[0] // falling) * (other[0] // rising), (one[1] // rising) * (other[1] // falling))


def quotient(one, other):
    """Tells one over the other; ByNought where the other is nought."""
    return product(one, _turned(other))


def raised(one, n):
    """Tells one to the power n; ByNought for nought below nought."""
    above, below = one
    if n < 0:
        # Turned over before it is raised: powers of what is in lowest terms are so
        # too, and the long numbers need not be divided by one another.
        above, below = _turned(one)
        n = -n
    return (_whole_power(above, n), _whole_power(below, n))


def is_less(one, other):
    """Tells whether one is less than the other: True or False."""
    return one[0] * other[1] < other[0] * one[1]


def _together(one, above, below):
    """Tells one and the fraction of above and below, in lowest terms too, together."""
    shared = gcd(one[1], below)
    rest = one[1] // shared
    whole = one[0] * (below // shared) + above * rest
    # Only what both have below can be divided out of both ends of the answer: so the long
    # numbers need not be divided by one another.
    left = gcd(whole, shared)
    return (whole // left, rest * (below // left))


def _turned(one):
    """Tells the quotient of (1, 1) by one; ByNought of nought."""
    above, below = one
    if above == 0:
        raise ByNought("something is to be divided by nought")
    if above < 0:
        return (-below, -above)
    return (below, above)


def _whole_power(number, n):
    """Tells the number to the power n, n from 0 on."""
    answer = 1
    # By squaring, from the highest bit of n down, as n may be far too large to count to.
    for place in reversed(range(n.bit_length())):
        answer = answer * answer
        if (n >> place) & 1:
            answer = answer * number
    return answer

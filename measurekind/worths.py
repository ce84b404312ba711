"""Worths: the fractions that reckonings come to."""

from measurekind.errors import NoValue
from measurekind.fractions import added, is_less, lessened, product, quotient, raised
from measurekind.reckonings import inputs


def worth(reckoning, values):
    """Tells what the reckoning comes to; NoValue for an input without one, else ByNought where met."""
    # Ahead of all else, as an input without a value tells even where it is not worked out.
    for name in inputs(reckoning):
        if name not in values:
            raise NoValue(f"the input {name} has no value")
    return _worked_out(reckoning, values)


def _worked_out(reckoning, values):
    """Tells what the reckoning comes to, where all of its inputs have values."""
    kind = reckoning[0]
    if kind == "is":
        return reckoning[1]
    if kind == "nought":
        return (0, 1)
    if kind == "input":
        return values[reckoning[1]]
    one = _worked_out(reckoning[1], values)
    if kind == "power":
        return raised(one, reckoning[2])
    other = _worked_out(reckoning[2], values)
    if kind == "less":
        return _worked_out(reckoning[3] if is_less(one, other) else reckoning[4], values)
    return _of_two(kind, one, other)


def _of_two(kind, one, other):
    """Tells what a plus, minus, times or over of two fractions comes to."""
    if kind == "plus":
        return added(one, other)
    if kind == "minus":
        return lessened(one, other)
    if kind == "times":
        return product(one, other)
    return quotient(one, other)

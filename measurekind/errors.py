"""The errors of the program: one class for each kind of failure."""


class MeasureError(ValueError):
    """Stands above each error that the program raises of its own."""


class NoFit(MeasureError):
    """Nothing that could be chosen makes all measures plain.

    times: a list of a whole number for each measure; by: a number from 2 on.
    """

    def __init__(self, times, by):
        super().__init__("no choice of measures fits")
        # A copy, so that the list belongs to the one who catches the error.
        self.times = list(times)
        self.by = by


class Unlike(MeasureError):
    """Measures that have to be alike are not."""


class NoValue(MeasureError):
    """Something that is asked for has no value."""


class ByNought(MeasureError):
    """Something is to be divided by nought."""

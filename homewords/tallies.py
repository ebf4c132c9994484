"""How many deeds a program does, counted without doing any."""

from homewords.terms import folded

KINDS = ("add", "xor", "and", "one")


class Tally:
    """The reading of a program as a number of deeds of these kinds.

    kept tells what is kept of a number. It must not matter whether it is asked
    ahead of sums and products, too, or behind them only.
    """

    def __init__(self, kinds, kept):
        self.kinds = kinds
        self.kept = kept

    def of_deed(self, deed):
        return 1 if deed[0] in self.kinds else 0

    def of_row(self, numbers):
        return self.kept(sum(numbers))

    def of_back(self, number):
        return number

    def of_times(self, number, times):
        return self.kept(number * times)


def tally_up_to(program, kinds, limit):
    """How many deeds of these kinds are done, and limit for all that are more."""
    # Programs may do far more deeds than can be written down in digits.
    return folded(program, Tally(kinds, lambda number: min(number, limit)))


def tally_parity(program, kinds):
    """1 if an odd number of deeds of these kinds is done, otherwise 0."""
    return folded(program, Tally(kinds, lambda number: number % 2))

"""What programs do, told whole by tables."""

from homewords.rearrangements import repeated
from homewords.states import state_at, state_number
from homewords.tables import both, deed_table, still, undone_table
from homewords.terms import folded


class Whole:
    """The reading of a program as the table of what it does to states of n words of w bits."""

    def __init__(self, n, w):
        self.n = n
        self.w = w
        self.known = {}

    def of_deed(self, deed):
        # Long programs do the same few deeds at many places.
        if deed not in self.known:
            self.known[deed] = deed_table(self.n, self.w, deed)
        return self.known[deed]

    def of_row(self, tables):
        found = still(self.n, self.w)
        for table in tables:
            found = both(found, table)
        return found

    def of_back(self, table):
        return undone_table(table)

    def of_times(self, table, times):
        return repeated(table, times)


def table_of(n, w, program):
    """The table of what the program does, however many deeds that are."""
    return folded(program, Whole(n, w))


def led(n, w, table, state):
    """The state to which the state goes by the table."""
    return state_at(n, w, table[state_number(w, state)])

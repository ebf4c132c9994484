"""Programs done to a state, deed by deed."""

from homewords.bounds import MAX_STEPS
from homewords.deeds import done, undone
from homewords.errors import TooMany
from homewords.tallies import KINDS, tally_up_to
from homewords.terms import folded


class Steps:
    """The reading of a program as its steps: pairs of a deed and whether it is undone.

    With them go the steps that undo them, so that a term undone costs nothing.
    """

    def of_deed(self, deed):
        return [(deed, False)], [(deed, True)]

    def of_row(self, ways):
        forth = [step for way in ways for step in way[0]]
        back = [step for way in reversed(ways) for step in way[1]]
        return forth, back

    def of_back(self, way):
        forth, back = way
        return back, forth

    def of_times(self, way, times):
        forth, back = way
        # No list can be repeated 10 ** 30 times, not even an empty one.
        if not forth:
            return way
        return forth * times, back * times


def run(n, w, program, state):
    """The state behind the program; TooMany if it does more than MAX_STEPS deeds."""
    if tally_up_to(program, KINDS, MAX_STEPS + 1) > MAX_STEPS:
        raise TooMany(MAX_STEPS)
    steps, _ = folded(program, Steps())
    for deed, turned in steps:
        state = undone(w, state, deed) if turned else done(w, state, deed)
    return state

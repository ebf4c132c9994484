"""Tables: for each state, by its number, the number of the state to which it goes."""

from homewords.deeds import done
from homewords.states import all_states, state_number


def still(n, w):
    """The table by which each state goes to itself."""
    return tuple(range(1 << (n * w)))


def deed_table(n, w, deed):
    """The table by which each state goes to the state behind the deed."""
    return tuple([state_number(w, done(w, state, deed)) for state in all_states(n, w)])


def both(one, other):
    """The table that does what one does, and then what other does."""
    return tuple([other[number] for number in one])


def undone_table(table):
    """The table by which each state goes back to the one from which it comes by table."""
    found = [0] * len(table)
    for place, number in enumerate(table):
        found[number] = place
    return tuple(found)

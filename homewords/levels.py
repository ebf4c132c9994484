"""Tables seen level by level: how they move the columns of a level behind each low part."""

from homewords.columns import column_of, columns_of, low_part, state_of
from homewords.doing import led
from homewords.errors import Unfit
from homewords.rearrangements import sign_of
from homewords.states import all_states


def moved(n, w, table, k, low):
    """For each column at level k, the one to which it goes behind the low part; Unfit if not triangular up to k."""
    _check_triangular(n, w, table, k)
    return _moved_behind(n, w, table, k, low)


def level_signs(n, w, table, k):
    """The sign of moved for each low part at k, in order; Unfit if not triangular up to k."""
    _check_triangular(n, w, table, k)
    # The low parts at k are the states of k bits.
    return tuple([sign_of(_moved_behind(n, w, table, k, low)) for low in all_states(n, k)])


def is_triangular(n, w, table, k):
    """Whether any two states that are alike below m stay so, for each m from 1 to k + 1."""
    # States that are alike below w are the same.
    for m in range(1, min(k + 2, w)):
        if parted(n, w, table, m) is not None:
            return False
    return True


def parted(n, w, table, m):
    """Two states that are alike below m and have images that are not; None if there are none."""
    led_to = {}
    for state in all_states(n, w):
        low = low_part(state, m)
        image = low_part(led(n, w, table, state), m)
        # The low part is a state, too, and comes first of all that have it: all others are held against it.
        if low not in led_to:
            led_to[low] = image
        if led_to[low] != image:
            return low, state
    return None


def _moved_behind(n, w, table, k, low):
    """What moved returns, of a table that is triangular up to k."""
    below = columns_of(k, low)
    starts = [state_of(n, below + (column,)) for column in range(1 << n)]
    return tuple([column_of(led(n, w, table, start), k) for start in starts])


def _check_triangular(n, w, table, k):
    if not is_triangular(n, w, table, k):
        raise Unfit()

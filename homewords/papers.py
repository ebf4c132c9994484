"""Papers: whether any value tells that a table has no program of a language."""

from homewords.columns import column_of, low_part
from homewords.doing import led
from homewords.levels import is_triangular, moved
from homewords.marks import is_oddly_alike, keeps_double, unlike_columns
from homewords.rearrangements import sign_of
from homewords.values import is_below, is_place, is_state


def paper_holds(n, w, language, table, value):
    """Whether the value is a paper of the language and the table."""
    if not isinstance(value, tuple) or not value:
        return False
    kind, told = value[0], value[1:]
    if language == "bits":
        return _bits_paper_holds(n, w, table, kind, told)
    if kind == "sees" and len(told) == 3:
        return _sees_holds(n, w, table, told)
    if kind == "odd" and len(told) == 2:
        return _odd_holds(n, w, table, told)
    if kind == "unlike" and len(told) == 4:
        return _unlike_holds(n, w, table, told)
    if kind == "doubles" and len(told) == 1 and language == "sums":
        return is_state(n, w, told[0]) and not keeps_double(n, w, table, told[0])
    return False


def _bits_paper_holds(n, w, table, kind, told):
    if kind == "columns" and len(told) == 4:
        return _columns_holds(n, w, table, told)
    if kind == "nought" and len(told) == 2:
        return _nought_holds(n, w, table, told)
    if kind == "odd" and not told:
        return unlike_columns(n, w, table) is None and is_oddly_alike(n, w, table)
    return False


def _sees_holds(n, w, table, told):
    k, one, other = told
    if not (is_below(k, w) and is_state(n, w, one) and is_state(n, w, other)):
        return False
    if low_part(one, k) != low_part(other, k):
        return False
    return low_part(led(n, w, table, one), k) != low_part(led(n, w, table, other), k)


def _odd_holds(n, w, table, told):
    k, low = told
    if n == 3 or not is_place(n, w, k, low) or not is_triangular(n, w, table, k):
        return False
    return sign_of(moved(n, w, table, k, low)) == 1


def _unlike_holds(n, w, table, told):
    k, low, m, other = told
    if n != 3 or not (is_place(n, w, k, low) and is_place(n, w, m, other)):
        return False
    if not is_triangular(n, w, table, max(k, m)):
        return False
    return sign_of(moved(n, w, table, k, low)) != sign_of(moved(n, w, table, m, other))


def _columns_holds(n, w, table, told):
    k, one, m, other = told
    if not (is_below(k, w) and is_below(m, w) and is_state(n, w, one) and is_state(n, w, other)):
        return False
    if column_of(one, k) != column_of(other, m):
        return False
    return column_of(led(n, w, table, one), k) != column_of(led(n, w, table, other), m)


def _nought_holds(n, w, table, told):
    k, state = told
    if not (is_below(k, w) and is_state(n, w, state)):
        return False
    return column_of(state, k) == 0 and column_of(led(n, w, table, state), k) != 0

"""Marks by which it is told whether a table can be done by the deeds of a language."""

from homewords.columns import column_of, doubled
from homewords.doing import led
from homewords.levels import level_signs, moved, parted
from homewords.rearrangements import sign_of
from homewords.states import all_states
from homewords.threads import NOUGHT_ROW, column_paper, parting

LANGUAGES = ("bits", "sums", "all")


def mark_paper(n, w, language, table):
    """None if there is a program of the language whose table is this one, otherwise a paper."""
    if language == "bits":
        paper = unlike_columns(n, w, table)
        if paper is None and is_oddly_alike(n, w, table):
            paper = ("odd",)
        return paper
    paper = _sees_paper(n, w, table)
    if paper is None and language == "sums":
        paper = _doubles_paper(n, w, table)
    if paper is None:
        paper = _sign_paper(n, w, table)
    return paper


def asked(n, w, table):
    """The first language that has a program whose table is this one; None if there is none."""
    for language in LANGUAGES:
        if mark_paper(n, w, language, table) is None:
            return language
    return None


def unlike_columns(n, w, table):
    """A paper that columns do not all go by one rearrangement that leaves 0; None if they do."""
    rows = [NOUGHT_ROW]
    for state in all_states(n, w):
        image = led(n, w, table, state)
        for k in range(w):
            rows.append(((column_of(state, k),), (column_of(image, k),), (k, state)))
    return column_paper(parting(rows))


def is_oddly_alike(n, w, table):
    """Whether the one rearrangement by which all columns go is odd, where it must be even."""
    return n > 3 and sign_of(moved(n, w, table, 0, (0,) * n)) == 1


def keeps_double(n, w, table, state):
    """Whether the doubles of the state's words go to the doubles of what it goes to."""
    return led(n, w, table, doubled(w, state)) == doubled(w, led(n, w, table, state))


def _sees_paper(n, w, table):
    for k in range(1, w):
        states = parted(n, w, table, k)
        if states is not None:
            return ("sees", k) + states
    return None


def _doubles_paper(n, w, table):
    for state in all_states(n, w):
        if not keeps_double(n, w, table, state):
            return "doubles", state
    return None


def _sign_paper(n, w, table):
    """A paper that a level is moved oddly, or with three words unlike another one; the table is triangular."""
    signs = [(k, low, sign) for k in range(w) for low, sign in zip(all_states(n, k), level_signs(n, w, table, k))]
    first, behind, wanted = signs[0] if n == 3 else (0, (), 0)
    for k, low, sign in signs:
        if sign != wanted:
            return ("unlike", first, behind, k, low) if n == 3 else ("odd", k, low)
    return None

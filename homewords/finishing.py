"""Tables that finish pairs of states, and what the pairs tell of other states."""

from math import factorial

from homewords.columns import columns_of
from homewords.errors import Barred, Unfit
from homewords.pairpapers import paper_and_told
from homewords.states import all_states, state_number
from homewords.tellings import completed, known_sign, settled, untold
from homewords.threads import state_of_threads, threads_of


def finished(n, w, language, pairs):
    """A table that leads the pairs and that a program of the language does; Barred with a paper if there is none."""
    paper, told = paper_and_told(n, w, language, pairs)
    if paper is not None:
        raise Barred(paper)
    sign = known_sign(n, told)
    if sign is None:
        # Either will do, if it is the same everywhere.
        sign = 0
    moves = {spot: completed(n, told.get(spot, {}), sign) for spot in _spots(n, w, language)}
    images = [_moved_state(n, w, language, moves, state) for state in all_states(n, w)]
    return tuple([state_number(w, image) for image in images])


def finish_count(n, w, language, pairs):
    """How many tables lead the pairs and have a program of the language."""
    paper, told = paper_and_told(n, w, language, pairs)
    if paper is not None:
        return 0
    # If the sign may be either, there are as many tables of each; so three words of "bits" get all ways of one spot.
    found = 2 if known_sign(n, told) is None else 1
    for spot in _spots(n, w, language):
        many = untold(n, told.get(spot, {}))
        # Of two ways and more one half has the sign.
        if many > 1:
            found = found * (factorial(many) // 2)
    return found


def tells(n, w, language, pairs, state):
    """The state to which all programs of the language that lead the pairs lead this one; None if to several ones.

    Unfit if no program leads the pairs.
    """
    paper, told = paper_and_told(n, w, language, pairs)
    if paper is not None:
        raise Unfit()
    sign = known_sign(n, told)
    images = [_settled_thread(n, told, sign, thread) for thread in threads_of(w, language, state)]
    if None in images:
        return None
    return state_of_threads(n, w, images)


def _spots(n, w, language):
    """All that may stand ahead of a column in a thread that programs of the language lead."""
    if language == "bits":
        return [()]
    spots = [columns_of(k, low) for k in range(w) for low in all_states(n, k)]
    # Threads of "sums" begin with a column that is not 0.
    return [spot for spot in spots if language == "all" or not spot or spot[0] != 0]


def _moved_state(n, w, language, moves, state):
    """The state to which this one goes, with a rearrangement of columns for each spot."""
    threads = threads_of(w, language, state)
    images = [[moves[thread[:k]][column] for k, column in enumerate(thread)] for thread in threads]
    return state_of_threads(n, w, images)


def _settled_thread(n, told, sign, thread):
    """The thread to which this one must go; None if it may go to several ones."""
    images = []
    for k, column in enumerate(thread):
        image = settled(n, told.get(thread[:k], {}), sign, column)
        if image is None:
            return None
        images.append(image)
    return images

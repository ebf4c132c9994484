"""Deeds: one word of a state is changed, or changed back."""


def done(w, state, deed):
    """The state behind the deed."""
    return _with_word(state, deed[1], _changed(w, state, deed, 1))


def undone(w, state, deed):
    """The state that the deed leads to this one."""
    return _with_word(state, deed[1], _changed(w, state, deed, -1))


def _changed(w, state, deed, sign):
    """The word that the deed changes, as it becomes; by the sign -1, as it was."""
    kind = deed[0]
    word = state[deed[1]]
    if kind == "xor":
        return word ^ state[deed[2]]
    if kind == "and":
        return word ^ (state[deed[2]] & state[deed[3]])
    if kind == "one":
        return (word + sign) % (1 << w)
    return (word + sign * state[deed[2]]) % (1 << w)


def _with_word(state, place, word):
    """The state with this word at the place."""
    return state[:place] + (word,) + state[place + 1:]

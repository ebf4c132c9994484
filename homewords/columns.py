"""States seen level by level: the bits of one place of all words."""


def column_of(state, k):
    """Column k of the state: its bit i is bit k of the word i."""
    column = 0
    for place, word in enumerate(state):
        column = column + ((word >> k & 1) << place)
    return column


def columns_of(w, state):
    """The columns 0 to w - 1 of the state."""
    return tuple([column_of(state, k) for k in range(w)])


def state_of(n, columns):
    """The state of n words that has these columns."""
    # A word takes one bit of each column as a column takes one of each word.
    return tuple([column_of(columns, place) for place in range(n)])


def low_part(state, k):
    """All words modulo 2 ** k."""
    return tuple([word % (1 << k) for word in state])


def agree(w, one, other):
    """The greatest k from 0 to w such that both states are alike below k."""
    unlike = 0
    for word, against in zip(one, other):
        unlike = unlike | (word ^ against)
    # With a bit at w there is always a lowest one, and it is w where nothing is unlike.
    unlike = unlike | (1 << w)
    return (unlike & -unlike).bit_length() - 1


def depth(w, state):
    """The least level whose column is not 0; w for the state of noughts."""
    return agree(w, state, (0,) * len(state))


def halved(state, k):
    """All words without their k lowest bits."""
    return tuple([word >> k for word in state])


def doubled(w, state):
    """All words twice, modulo 2 ** w."""
    return tuple([(word << 1) % (1 << w) for word in state])

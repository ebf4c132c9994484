"""What any value may be: integers, states and the like, told from what only looks like them."""


def is_below(value, limit):
    """Whether the value is an integer from 0 on that is below the limit."""
    # True would count as 1.
    return isinstance(value, int) and not isinstance(value, bool) and 0 <= value < limit


def is_state(n, w, value):
    """Whether the value is a state of n words of w bits; with k for w, whether it is a low part at k."""
    return isinstance(value, tuple) and len(value) == n and all([is_below(word, 1 << w) for word in value])


def is_place(n, w, k, low):
    """Whether k is a level of words of w bits, and low a low part at k."""
    return is_below(k, w) and is_state(n, k, low)

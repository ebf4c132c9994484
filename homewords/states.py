"""States and their numbers."""


def state_number(w, state):
    """The number of a state of words of w bits, in the order of tuples, from 0 on."""
    number = 0
    for word in state:
        number = (number << w) + word
    return number


def state_at(n, w, number):
    """The state of n words of w bits that has this number."""
    top = (1 << w) - 1
    return tuple([(number >> (w * place)) & top for place in reversed(range(n))])


def all_states(n, w):
    """All states of n words of w bits, in the order of their numbers."""
    return [state_at(n, w, number) for number in range(1 << (n * w))]

"""The numbers of states."""


def state_number(w, state):
    """The number of a state of words of w bits, in the order of tuples, from 0 on."""
    number = 0
    for word in state:
        number = (number << w) + word
    return number

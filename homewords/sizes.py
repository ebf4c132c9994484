"""How many tables there are that programs can do."""

from math import factorial


def table_count(n, w, language):
    """How many tables of n and w there are for which there is a program of the language."""
    columns = 1 << n
    even = factorial(columns) // 2
    # With three words there are as many again: those that move each level oddly.
    found = 2 if n == 3 else 1
    if language == "all":
        for k in range(w):
            found = found * _power(even, 1 << (n * k))
        return found
    found = found * (factorial(columns - 1) // 2)
    if language == "sums":
        for k in range(1, w):
            found = found * _power(even, (columns - 1) << (n * (k - 1)))
    return found


def _power(base, exponent):
    """The base to the power of the exponent, by squaring."""
    found = 1
    while exponent:
        if exponent % 2 == 1:
            found = found * base
        base = base * base
        exponent = exponent // 2
    return found

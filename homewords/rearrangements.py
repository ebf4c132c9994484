"""Rearrangements: tuples of the numbers from 0 on, each once; a place goes to the number that stands there."""


def repeated(moves, times):
    """The rearrangement done so often, one behind another."""
    found = list(moves)
    # Each cycle is turned at once, so that 10 ** 30 times cost no more than one.
    for cycle in _cycles(moves):
        for at, place in enumerate(cycle):
            found[place] = cycle[(at + times) % len(cycle)]
    return tuple(found)


def sign_of(moves):
    """1 if the rearrangement is odd, otherwise 0."""
    # A cycle is put together of one exchange less than it has places.
    return (len(moves) - len(_cycles(moves))) % 2


def _cycles(moves):
    """Lists of places, each of which goes to the next one of its list, the last one to the first."""
    met = [False] * len(moves)
    found = []
    for start in range(len(moves)):
        if not met[start]:
            cycle = _cycle_from(moves, start)
            for place in cycle:
                met[place] = True
            found.append(cycle)
    return found


def _cycle_from(moves, start):
    """The places through which start comes back to itself, start first."""
    cycle = [start]
    place = moves[start]
    while place != start:
        cycle.append(place)
        place = moves[place]
    return cycle

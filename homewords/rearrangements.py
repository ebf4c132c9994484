"""Rearrangements: tuples of the numbers from 0 on, each once; a place goes to the number that stands there."""


def repeated(moves, times):
    """The rearrangement done so often, one behind another."""
    found = list(moves)
    # Each cycle is turned at once, so that 10 ** 30 times cost no more than one.
    for cycle in _cycles(moves):
        for at, place in enumerate(cycle):
            found[place] = cycle[(at + times) % len(cycle)]
    return tuple(found)


def sign_of(moves):
    """1 if the rearrangement is odd, otherwise 0."""
    # A cycle is put together of one exchange less than it has places.
    return (len(moves) - len(_cycles(moves))) % 2


def _cycles(moves):
    """Lists of places, each of which goes to the next one of its list, the last one to the first."""
    met = [False] * len(moves)
    found = []
    for start in range(len(moves)):
        if not met[start]:
            cycle = _cycle_from(moves, start)
            for place in cycle:
                met[place] = True
            found.append(cycle)
    return found


def _cycle_from(moves, start):
    """The places through which start comes back to itself, start first."""
    cycle = [start]
    place = moves[start]
    while place != start:
        cycle.append(place)
        place = moves[place]
    return cycle


def rings_of(moves, many):
    """Rings of so many numbers that, one behind another, do this rearrangement of the numbers below a power of 2.

    A ring leads each of its numbers to the next one, the last one to the first.
    many is 2, or 3 for an even rearrangement. Of three numbers none is the sum,
    bit by bit, of the other two.
    """
    rest = list(moves)
    rings = []
    places = _places_to_settle(len(moves))
    for at, place in enumerate(places):
        start = rest.index(place)
        if start != place:
            ring = (start, place)
            if many == 3:
                ring = ring + (_third_of(rest, start, place, places[at + 1:]),)
            rest = _behind_ring(rest, ring)
            rings.append(ring)
    return rings


def _places_to_settle(many):
    """All places, those last of which none is the sum of others: there may be no more to choose from."""
    last = [1, 2, 4]
    return [place for place in range(many) if place not in last] + last


def _third_of(rest, start, place, open_places):
    """A third number for a ring that leads start to place, from the places that are not settled."""
    fit = [third for third in open_places if third not in (start, start ^ place)]
    # With it the place beyond is settled, too.
    return rest[place] if rest[place] in fit else fit[0]


def _behind_ring(moves, ring):
    """What is left of the rearrangement if the ring is done ahead of it."""
    found = list(moves)
    for at, place in enumerate(ring):
        found[ring[(at + 1) % len(ring)]] = moves[place]
    return found

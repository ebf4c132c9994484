"""What rows of threads tell: behind which columns ahead, which column goes to which one.

A spot is the tuple of the columns ahead, goings are a dict: what goes where at one spot.
"""

from homewords.rearrangements import sign_of


def told_of(rows):
    """The goings that the rows tell, by their spots."""
    told = {}
    for firsts, seconds, _ in rows:
        for k, column in enumerate(firsts):
            spot = firsts[:k]
            if spot not in told:
                told[spot] = {}
            told[spot][column] = seconds[k]
    return told


def untold(n, goings):
    """How many columns of n words are not told where to go."""
    return (1 << n) - len(goings)


def completed(n, goings, sign):
    """A rearrangement of all columns that begins with the goings, of the sign if more than one column is untold."""
    columns = range(1 << n)
    images = list(goings.values())
    starts = [column for column in columns if column not in goings]
    ends = [column for column in columns if column not in images]
    moves = dict(goings)
    for start, end in zip(starts, ends):
        moves[start] = end
    if len(starts) > 1 and sign_of(_in_order(moves)) != sign:
        moves[starts[-1]], moves[starts[-2]] = ends[-2], ends[-1]
    return _in_order(moves)


def settled(n, goings, sign, column):
    """Where the column goes in all rearrangements that begin with the goings, of the sign if that is not None.

    None if in several ways.
    """
    if column in goings:
        return goings[column]
    open_ones = untold(n, goings)
    if open_ones == 1 or (open_ones == 2 and sign is not None):
        return completed(n, goings, sign)[column]
    return None


def sign_told(n, goings):
    """The sign of the rearrangement, if all columns are told, or all but one; otherwise None."""
    if untold(n, goings) > 1:
        return None
    return sign_of(completed(n, goings, 0))


def known_sign(n, told):
    """The sign that rearrangements have at all spots; None if it may be either."""
    if n > 3:
        return 0
    # With three words all levels are moved by one sign, so that one spot tells for all.
    for spot in told:
        sign = sign_told(n, told[spot])
        if sign is not None:
            return sign
    return None


def _in_order(moves):
    return tuple([moves[column] for column in range(len(moves))])

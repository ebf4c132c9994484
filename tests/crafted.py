"""Tables made so that it is known what can be done, and what tells so, taken from the document's words."""

import itertools
import random

from tests.samples import all_states, column_by_bits, exchanged, number_by_words, table_by_moves, table_by_steps

LANGUAGES = ("bits", "sums", "all")
KINDS = {"bits": ("xor", "and"), "sums": ("xor", "and", "add"), "all": ("xor", "and", "add", "one")}


def sign_by_pairs(moves):
    """1 if an odd number of pairs stands the other way about."""
    return len([1 for one, other in itertools.combinations(moves, 2) if one > other]) % 2


def drawn_columns(draw, n, sign, leaves_nought=False):
    """A drawn rearrangement of columns of this sign."""
    first = 1 if leaves_nought else 0
    moves = list(range(first)) + draw.sample(range(first, 2 ** n), 2 ** n - first)
    if sign_by_pairs(moves) != sign:
        moves[-1], moves[-2] = moves[-2], moves[-1]
    return tuple(moves)


def drawn_level_table(draw, n, w, language):
    """A drawn table that programs of the language do, told level by level."""
    sign = draw.randrange(2) if n == 3 else 0
    spots = [(k, low) for k in range(w) for low in all_states(n, k)]
    if language == "all":
        return table_by_moves(n, w, {spot: drawn_columns(draw, n, sign) for spot in spots})
    alike = drawn_columns(draw, n, sign, True)
    moves = {}
    for k, low in spots:
        moves[k, low] = alike
        # What stands behind a column 0 at level 0 is a double, and goes as its half does.
        if k and language == "sums":
            half = (k - 1, tuple(word // 2 for word in low))
            moves[k, low] = drawn_columns(draw, n, sign) if column_by_bits(low, 0) else moves[half]
    return table_by_moves(n, w, moves)


def drawn_row(draw, n, language, many):
    """A program of some drawn deeds of the language."""
    places = range(n)
    deeds = []
    for _ in range(many):
        kind = draw.choice(KINDS[language])
        i, j, k = draw.sample(places, 3)
        j, k = min(j, k), max(j, k)
        deeds.append(("do", {"one": (kind, i), "and": (kind, i, j, k)}.get(kind, (kind, i, j))))
    return (("row", tuple(deeds)),)


def done_tables(n, w, many):
    """Triples of a language, a table that its programs do, and a word that tells how it was made."""
    draw = random.Random(f"done {n} {w}")
    found = []
    for language in LANGUAGES:
        for at in range(many):
            found.append((language, drawn_level_table(draw, n, w, language), "levels"))
            found.append((language, table_by_steps(n, w, drawn_row(draw, n, language, 1 + 4 * at)), "deeds"))
    return found


def with_cycle(n, w, table, states):
    """The table with the images of these states turned about."""
    found = list(table)
    places = [number_by_words(w, state) for state in states]
    for place, following in zip(places, places[1:] + places[:1]):
        found[place] = table[following]
    return tuple(found)


def spoilt_tables(n, w, table, draw):
    """The table changed in each way that a mark must tell; some of these may still be done."""
    found = [exchanged(table, *draw.sample(range(len(table)), 2)) for _ in range(2)]
    found.append(exchanged(table, 0, draw.randrange(1, len(table))))
    # States that differ at the highest level alone; behind noughts these are doubles, if w is above 1.
    for low in ((0,) * n, draw.choice(all_states(n, w - 1))):
        alike = [state for state in all_states(n, w) if below(state, w - 1) == low]
        found.append(with_cycle(n, w, table, draw.sample(alike, 2)))
        found.append(with_cycle(n, w, table, draw.sample(alike, 3)))
    still = {(k, low): tuple(range(2 ** n)) for k in range(w) for low in all_states(n, k)}
    for many in (2, 3):
        k = draw.randrange(w)
        ring = turned_columns(n, draw.sample(range(2 ** n), many))
        # Behind one low part, and behind all of one level.
        for spots in ([(k, draw.choice(all_states(n, k)))], [(k, low) for low in all_states(n, k)]):
            ahead = table_by_moves(n, w, {**still, **{spot: ring for spot in spots}})
            found.append(tuple(table[number] for number in ahead))
    return found


def turned_columns(n, ring):
    """The rearrangement that leads each column of the ring to the next one, the last one to the first."""
    moves = list(range(2 ** n))
    for column, following in zip(ring, ring[1:] + ring[:1]):
        moves[column] = following
    return tuple(moves)


def images_of(n, w, table):
    """Pairs of each state and its image, in the order of states."""
    states = all_states(n, w)
    return [(state, states[number]) for state, number in zip(states, table)]


def below(state, k):
    return tuple(word % 2 ** k for word in state)


def is_triangular(pairs, k):
    """Whether for each m from 1 to k + 1 states that are alike below m have images that are."""
    for m in range(1, k + 2):
        met = {}
        for state, image in pairs:
            if met.setdefault(below(state, m), below(image, m)) != below(image, m):
                return False
    return True


def row_at(pairs, k, low):
    """For each column at level k behind low, with noughts above, the column to which it goes."""
    found = {}
    for state, image in pairs:
        if below(state, k) == low and below(state, k + 1) == state:
            found[column_by_bits(state, k)] = column_by_bits(image, k)
    return [found[column] for column in sorted(found)]


def is_done(n, w, language, table):
    """Whether the table can be done by programs of the language, told by [A2]."""
    pairs = images_of(n, w, table)
    if language == "bits":
        goings = {(column_by_bits(x, k), column_by_bits(y, k)) for x, y in pairs for k in range(w)}
        alike = len(goings) == 2 ** n and (0, 0) in goings
        return alike and (n == 3 or sign_by_pairs([image for _, image in sorted(goings)]) == 0)
    if not is_triangular(pairs, w - 1):
        return False
    images = dict(pairs)
    if language == "sums" and any(images[twice(x, w)] != twice(y, w) for x, y in pairs):
        return False
    signs = {sign_by_pairs(row_at(pairs, k, low)) for k in range(w) for low in all_states(n, k)}
    return len(signs) == 1 if n == 3 else signs == {0}


def twice(state, w):
    return tuple(2 * word % 2 ** w for word in state)


def all_papers(n, w, language, table):
    """The papers of language and table, each as it is written, so that True is not 1."""
    pairs = images_of(n, w, table)
    if language == "bits":
        return {repr(paper) for paper in bits_papers(n, w, pairs)}
    return {repr(paper) for paper in level_papers(n, w, language, pairs)}


def bits_papers(n, w, pairs):
    spots = [(k, x, column_by_bits(x, k), column_by_bits(y, k)) for x, y in pairs for k in range(w)]
    found = [("nought", k, x) for k, x, column, image in spots if column == 0 != image]
    for k, x, column, image in spots:
        for m, y, other, going in spots:
            if column == other and image != going:
                found.append(("columns", k, x, m, y))
    if not found and n >= 4:
        goings = sorted({(column, image) for _, _, column, image in spots})
        if sign_by_pairs([image for _, image in goings]):
            found.append(("odd",))
    return found


def level_papers(n, w, language, pairs):
    found = []
    for (x, to), (y, into) in itertools.product(pairs, repeat=2):
        for k in range(1, w):
            if below(x, k) == below(y, k) and below(to, k) != below(into, k):
                found.append(("sees", k, x, y))
    if language == "sums":
        images = dict(pairs)
        found += [("doubles", x) for x, y in pairs if images[twice(x, w)] != twice(y, w)]
    signs = []
    for k in range(w):
        if is_triangular(pairs, k):
            signs += [(k, low, sign_by_pairs(row_at(pairs, k, low))) for low in all_states(n, k)]
    if n >= 4:
        return found + [("odd", k, low) for k, low, sign in signs if sign]
    for (k, low, sign), (m, other, against) in itertools.product(signs, repeat=2):
        if sign != against:
            found.append(("unlike", k, low, m, other))
    return found

"""Pairs of states, drawn and spoilt, and what tells of them, taken from the document's words."""

import itertools

from tests.crafted import below, drawn_row, sign_by_pairs
from tests.samples import all_states, column_by_bits, deed_by_bits, steps


def image_by(w, program, state):
    for deed, sign in steps(program, program[-1]):
        state = deed_by_bits(w, state, deed, sign)
    return state


def drawn_state(draw, n, w):
    """A state: some are doubles, some have few bits, and some are noughts."""
    kind = draw.randrange(8)
    state = tuple(draw.randrange(2 ** w) for _ in range(n))
    if kind == 0:
        return tuple(word << draw.randrange(1, w + 1) & 2 ** w - 1 for word in state)
    if kind == 1:
        shift = draw.randrange(w)
        return tuple((word << shift) % 2 ** w for word in state)
    if kind == 2:
        return tuple(word % 2 for word in state)
    if kind == 3:
        return (0,) * n
    return state


def drawn_firsts(draw, n, w, many):
    found = []
    while len(found) < min(many, 2 ** (n * w)):
        state = drawn_state(draw, n, w)
        if found and draw.randrange(3) == 0:
            # One that goes together with another one for some levels, or is its double.
            known = draw.choice(found)
            k = draw.randrange(w + 1)
            state = tuple(word % 2 ** k + new // 2 ** k * 2 ** k for word, new in zip(known, state))
            if draw.randrange(3) == 0:
                state = tuple(2 * word % 2 ** w for word in known)
        if state not in found:
            found.append(state)
        elif len(found) > 2 ** (n * w) // 2:
            found += [left for left in all_states(n, w) if left not in found][:1]
    return found


def led_pairs(draw, n, w, language, many, deeds=20):
    """Pairs that a drawn program of the language leads, and the program."""
    program = drawn_row(draw, n, language, deeds)
    firsts = drawn_firsts(draw, n, w, many)
    return tuple((first, image_by(w, program, first)) for first in firsts), program


def spoilt_pairs(draw, n, w, pairs):
    """The pairs with a second or two changed, in each way that a paper must tell."""
    found = []
    if not pairs:
        return found
    p, q = draw.randrange(len(pairs)), draw.randrange(len(pairs))
    for k in (0, w - 1, draw.randrange(w)):
        first, second = pairs[p]
        i = draw.randrange(n)
        found.append(with_second(pairs, p, second[:i] + (second[i] ^ 1 << k,) + second[i + 1:]))
    if p != q:
        found.append(with_second(with_second(pairs, p, pairs[q][1]), q, pairs[p][1]))
        found.append(with_second(pairs, p, pairs[q][1]))
        found.append(with_second(pairs, p, tuple(2 * word % 2 ** w for word in pairs[q][1])))
    found.append(with_second(pairs, q, tuple(2 * word % 2 ** w for word in pairs[q][1])))
    found.append(with_second(pairs, q, tuple(word // 2 for word in pairs[q][1])))
    found.append(with_second(pairs, q, drawn_state(draw, n, w)))
    return found


def with_second(pairs, p, second):
    return pairs[:p] + ((pairs[p][0], second),) + pairs[p + 1:]


def columns(w, state):
    return [column_by_bits(state, k) for k in range(w)]


def depth_by_columns(w, state):
    return ([k for k, column in enumerate(columns(w, state)) if column] + [w])[0]


def lessened(state, depth):
    return tuple(word // 2 ** depth for word in state)


def levels_alike(one, other, most):
    """The greatest number of levels, at most so many, below which both are alike."""
    return max(k for k in range(most + 1) if below(one, k) == below(other, k))


def what_is_told(n, w, language, pairs):
    """For each low part and level, as pairs (k, low), the dict of what goes where; for "bits" one at ()."""
    if language == "bits":
        goings = {0: 0}
        for first, second in pairs:
            goings.update(zip(columns(w, first), columns(w, second)))
        return {(): goings}
    found = {(0, (0,) * n): {0: 0}} if language == "sums" else {}
    for first, second in pairs:
        d = depth_by_columns(w, first) if language == "sums" else 0
        first, second = lessened(first, d), lessened(second, d)
        for k in range(w - d):
            goings = found.setdefault((k, below(first, k)), {})
            goings[column_by_bits(first, k)] = column_by_bits(second, k)
    return found


def told_sign(n, goings):
    """The sign of what is told, if all columns or all but one are; otherwise None."""
    if len(goings) < 2 ** n - 1:
        return None
    whole = dict(goings)
    for start in range(2 ** n):
        whole.setdefault(start, sum(range(2 ** n)) - sum(goings.values()))
    return sign_by_pairs([whole[start] for start in range(2 ** n)])


def first_kinds(n, w, language, pairs):
    """The papers that tell of no sign."""
    found = []
    places = range(len(pairs))
    if language == "bits":
        spots = [(p, k, column_by_bits(x, k), column_by_bits(y, k)) for p, (x, y) in enumerate(pairs) for k in range(w)]
        found += [("nought", p, k) for p, k, column, image in spots if (column == 0) != (image == 0)]
        for (p, k, column, image), (q, m, other, going) in itertools.product(spots, repeat=2):
            if (column == other) != (image == going):
                found.append(("columns", p, k, q, m))
        return found
    depths = [[depth_by_columns(w, state) if language == "sums" else 0 for state in pair] for pair in pairs]
    found += [("depth", p) for p in places if depths[p][0] != depths[p][1]]
    for p, q in itertools.combinations(places, 2):
        if depths[p][0] == depths[p][1] and depths[q][0] == depths[q][1]:
            most = w - max(depths[p][0], depths[q][0])
            ones = [lessened(state, depths[p][0]) for state in pairs[p]]
            others = [lessened(state, depths[q][0]) for state in pairs[q]]
            if levels_alike(ones[0], others[0], most) != levels_alike(ones[1], others[1], most):
                found.append(("agree", p, q))
    return found


def pair_papers(n, w, language, pairs):
    """All papers of language and pairs."""
    found = first_kinds(n, w, language, pairs)
    if found:
        return found
    signs = [(spot, told_sign(n, goings)) for spot, goings in what_is_told(n, w, language, pairs).items()]
    signs = [(spot, sign) for spot, sign in signs if sign is not None]
    if n > 3:
        return [("odd",) + spot for spot, sign in signs if sign]
    if language == "bits":
        return []
    return [("unlike",) + a + b for (a, sign), (b, other) in itertools.product(signs, repeat=2) if sign != other]


def written_papers(n, w, language, pairs):
    """Each of them as it is written, so that True is not 1."""
    return {repr(paper) for paper in pair_papers(n, w, language, pairs)}


def ways_to_finish(n, goings, sign):
    """All rearrangements, of the sign if one is asked, that begin with the goings."""
    starts = [column for column in range(2 ** n) if column not in goings]
    ends = [column for column in range(2 ** n) if column not in goings.values()]
    for row in itertools.permutations(ends):
        whole = {**goings, **dict(zip(starts, row))}
        moves = [whole[column] for column in range(2 ** n)]
        if sign is None or sign_by_pairs(moves) == sign:
            yield tuple(moves)

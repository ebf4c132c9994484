"""Papers that pairs of states can't be led by any program of a language."""

from homewords.columns import column_of, columns_of, depth, state_of
from homewords.tellings import sign_told, told_of
from homewords.threads import column_paper, parting, rows_of, shared, threads_of
from homewords.values import is_below, is_place


def pair_paper(n, w, language, pairs):
    """None if there is a program of the language that leads the pairs, otherwise a paper."""
    paper, _ = paper_and_told(n, w, language, pairs)
    return paper


def paper_and_told(n, w, language, pairs):
    """What pair_paper returns, and the goings that the pairs tell, which are empty if there is a paper."""
    rows = rows_of(w, language, pairs)
    paper = _first_paper(w, language, pairs, rows)
    if paper is not None:
        return paper, {}
    told = told_of(rows)
    paper = _sign_paper(n, language, told)
    return paper, told if paper is None else {}


def pair_holds(n, w, language, pairs, value):
    """Whether the value is a paper of the language and the pairs."""
    if not isinstance(value, tuple) or not value:
        return False
    kind, told = value[0], value[1:]
    if language == "bits":
        return _bits_paper_holds(n, w, pairs, kind, told)
    if kind == "agree" and len(told) == 2:
        return _agree_holds(w, language, pairs, told)
    if kind == "depth" and len(told) == 1 and language == "sums":
        return is_below(told[0], len(pairs)) and not _is_as_deep(w, pairs[told[0]])
    if kind == "odd" and len(told) == 2:
        return n > 3 and _signs_at(n, w, language, pairs, [told]) == [1]
    if kind == "unlike" and len(told) == 4:
        return n == 3 and _signs_at(n, w, language, pairs, [told[:2], told[2:]]) in ([0, 1], [1, 0])
    return False


def _first_paper(w, language, pairs, rows):
    """A paper of the kinds that do not tell of signs; None if there is none."""
    if language == "sums":
        for p, pair in enumerate(pairs):
            if not _is_as_deep(w, pair):
                return "depth", p
    labels = parting(rows)
    if labels is None:
        labels = parting([(seconds, firsts, label) for firsts, seconds, label in rows])
    if language == "bits" or labels is None:
        return column_paper(labels)
    return ("agree",) + tuple(sorted(labels[0] + labels[1]))


def _sign_paper(n, language, told):
    """A paper that tells of signs; there is none of the other kinds."""
    signs = [(spot, sign_told(n, told[spot])) for spot in told]
    signs = [(spot, sign) for spot, sign in signs if sign is not None]
    if not signs:
        return None
    # Three words may have either sign, but one alone; for "bits" there is one spot alone, too.
    first, wanted = signs[0] if n == 3 else ((), 0)
    for spot, sign in signs:
        if sign != wanted and n == 3:
            return ("unlike",) + _place_of(n, first) + _place_of(n, spot)
        if sign != wanted:
            return ("odd",) if language == "bits" else ("odd",) + _place_of(n, spot)
    return None


def _place_of(n, spot):
    """The level and the low part of the spot."""
    return len(spot), state_of(n, spot)


def _is_as_deep(w, pair):
    return depth(w, pair[0]) == depth(w, pair[1])


def _bits_paper_holds(n, w, pairs, kind, told):
    if kind == "nought" and len(told) == 2:
        return _nought_holds(w, pairs, told)
    if kind == "columns" and len(told) == 4:
        return _columns_holds(w, pairs, told)
    if kind == "odd" and not told:
        return n > 3 and _signs_at(n, w, "bits", pairs, [(0, (0,) * n)]) == [1]
    return False


def _agree_holds(w, language, pairs, told):
    p, q = told
    if not (is_below(p, len(pairs)) and is_below(q, len(pairs)) and p < q):
        return False
    if language == "sums" and not (_is_as_deep(w, pairs[p]) and _is_as_deep(w, pairs[q])):
        return False
    ones = [threads_of(w, language, state)[0] for state in pairs[p]]
    others = [threads_of(w, language, state)[0] for state in pairs[q]]
    return shared(ones[0], others[0]) != shared(ones[1], others[1])


def _nought_holds(w, pairs, told):
    p, k = told
    if not (is_below(p, len(pairs)) and is_below(k, w)):
        return False
    first, second = pairs[p]
    return (column_of(first, k) == 0) != (column_of(second, k) == 0)


def _columns_holds(w, pairs, told):
    p, k, q, m = told
    if not (is_below(p, len(pairs)) and is_below(k, w) and is_below(q, len(pairs)) and is_below(m, w)):
        return False
    one, other = pairs[p], pairs[q]
    alike = [column_of(one[at], k) == column_of(other[at], m) for at in range(2)]
    return alike[0] != alike[1]


def _signs_at(n, w, language, pairs, places):
    """The signs told at the places, None for each that is not; None for all if one is no place, or other papers are.

    places are pairs of a level and a low part there.
    """
    for k, low in places:
        if not is_place(n, w, k, low):
            return None
    rows = rows_of(w, language, pairs)
    if _first_paper(w, language, pairs, rows) is not None:
        return None
    told = told_of(rows)
    return [sign_told(n, told.get(columns_of(k, low), {})) for k, low in places]

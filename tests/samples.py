"""States, deeds and terms that the tests go through; the same in each run."""

import itertools
import random

WIDTHS = (1, 2, 3, 63, 64)
COUNTS = (3, 4, 5, 6, 7, 8)
EMPTY = ("row", ())
# All n and w of which there are tables.
SIZES = ((3, 1), (4, 1), (5, 1), (6, 1), (7, 1), (8, 1), (3, 2), (4, 2))


def states(n, w, many=6):
    """Some states of n words of w bits, those with the least and greatest words among them."""
    draw = random.Random(f"{n} {w}")
    top = 2 ** w - 1
    found = [(0,) * n, (top,) * n, (2 ** (w - 1),) * n, (top,) + (0,) * (n - 1), (0,) * (n - 1) + (top,)]
    found += [tuple(draw.choice((0, 1, top - 1, top)) % 2 ** w for _ in range(n)) for _ in range(many)]
    found += [tuple(draw.randrange(2 ** w) for _ in range(n)) for _ in range(many)]
    # Words that share few low bits are rare among drawn ones.
    return found + [tuple(word << w // 2 & top for word in found[-1 - k]) for k in range(2)]


def all_states(n, w):
    return list(itertools.product(range(2 ** w), repeat=n))


def deeds(n):
    """All deeds of n words."""
    places = range(n)
    found = [(kind, i, j) for kind in ("add", "xor") for i, j in itertools.permutations(places, 2)]
    found += [("and", i, j, k) for i, j, k in itertools.permutations(places, 3) if j < k]
    return found + [("one", i) for i in places]


def deed_by_bits(w, state, deed, sign=1):
    """The state behind the deed (by the sign -1: ahead of it), told from the document's words."""
    kind, i = deed[0], deed[1]
    word = state[i]
    if kind == "add":
        word = (word + sign * state[deed[2]]) % 2 ** w
    elif kind == "one":
        word = (word + sign) % 2 ** w
    else:
        for k in range(w):
            if all(state[j] // 2 ** k % 2 == 1 for j in deed[2:]):
                word += -2 ** k if word // 2 ** k % 2 else 2 ** k
    return tuple(word if place == i else kept for place, kept in enumerate(state))


def steps(program, term):
    """The deeds that the term does, one by one: pairs of a deed and 1, or -1 if it is undone."""
    kind = term[0]
    if kind == "do":
        return [(term[1], 1)]
    if kind == "row":
        return [step for inner in term[1] for step in steps(program, inner)]
    if kind == "back":
        return [(deed, -sign) for deed, sign in reversed(steps(program, term[1]))]
    if kind == "times":
        return [step for _ in range(term[2]) for step in steps(program, term[1])]
    return steps(program, program[term[1]])


def drawn_term(draw, n, ahead, deep):
    """A term of n with parts from the places ahead, at most deep terms deep."""
    kind = draw.choice(("do", "part", "row", "back", "times") if deep > 1 else ("do", "part"))
    if kind == "part" and ahead:
        return ("part", draw.randrange(ahead))
    if kind == "row":
        return ("row", tuple(drawn_term(draw, n, ahead, deep - 1) for _ in range(draw.randrange(4))))
    if kind == "back":
        return ("back", drawn_term(draw, n, ahead, deep - 1))
    if kind == "times":
        return ("times", drawn_term(draw, n, ahead, deep - 1), draw.randrange(4))
    return ("do", draw.choice(deeds(n)))


def programs(n, many):
    """Some programs of n that do few enough deeds to be done one by one."""
    draw = random.Random(f"programs {n}")
    found = []
    while len(found) < many:
        terms = draw.randrange(1, 7)
        program = tuple(drawn_term(draw, n, place, 5) for place in range(terms))
        if len(steps(program, program[-1])) <= 2000:
            found.append(program)
    return found


def within(term, kind, deep):
    """The term within others of the kind, so that it stands deep terms deep itself."""
    for _ in range(deep - 1):
        term = ("row", (term,)) if kind == "row" else (kind, term)
    return term


def chain(first, following, many):
    """A program of many terms: the first one, and each other one of the place ahead."""
    return (first,) + tuple(following(("part", place)) for place in range(many - 1))


def number_by_words(w, state):
    """The number of the state: the last word counts ones, each one ahead 2 ** w times as much."""
    return sum(word * (2 ** w) ** place for place, word in enumerate(reversed(state)))


def table_by_steps(n, w, program):
    """The table of the program, told from its deeds one by one."""
    found = list(all_states(n, w))
    for deed, sign in steps(program, program[-1]):
        found = [deed_by_bits(w, state, deed, sign) for state in found]
    return tuple(number_by_words(w, state) for state in found)


def drawn_tables(n, w, many):
    """Some tables of n and w, triangular or not."""
    draw = random.Random(f"tables {n} {w}")
    places = range(2 ** (n * w))
    return [tuple(draw.sample(places, len(places))) for _ in range(many)]


def bit(x, k):
    return x // 2 ** k % 2


def column_by_bits(state, k):
    return sum(bit(word, k) * 2 ** place for place, word in enumerate(state))


def drawn_moves(draw, n, w):
    """For each level and low part a drawn rearrangement of columns: a dict by pairs (level, low part)."""
    columns = range(2 ** n)
    return {
        (k, low): tuple(draw.sample(columns, len(columns))) for k in range(w) for low in all_states(n, k)
    }


def table_by_moves(n, w, moves):
    """The triangular table that moves columns so."""
    found = []
    for state in all_states(n, w):
        image = [0] * n
        for k in range(w):
            low = tuple(word % 2 ** k for word in state)
            column = moves[k, low][column_by_bits(state, k)]
            image = [word + bit(column, place) * 2 ** k for place, word in enumerate(image)]
        found.append(number_by_words(w, image))
    return tuple(found)


def triangular_tables(n, w, many):
    """Some triangular tables of n and w."""
    draw = random.Random(f"triangular {n} {w}")
    return [table_by_moves(n, w, drawn_moves(draw, n, w)) for _ in range(many)]


def exchanged(table, one, other):
    """The table with the images of two places exchanged."""
    found = list(table)
    found[one], found[other] = table[other], table[one]
    return tuple(found)

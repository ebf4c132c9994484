"""Threads: tuples of columns that programs lead by themselves, each column behind those ahead of it.

A row is a triple: a thread, the thread of as many columns to which it is to
go, and a label that tells where both come from.
"""

from homewords.columns import columns_of, depth, state_of

# The column 0 stays where it has none ahead. It comes from nowhere, and so it has no label.
NOUGHT_ROW = ((0,), (0,), ())


def parting(rows):
    """Labels of two rows whose first threads go together further than the second ones; None if there are none."""
    # Of rows in order each goes together with those next to it furthest, so that these alone tell.
    in_order = sorted(rows, key=lambda row: row[0])
    for one, other in zip(in_order, in_order[1:]):
        if shared(one[0], other[0]) > shared(one[1], other[1]):
            return one[2], other[2]
    return None


def shared(one, other):
    """How many columns, from the first on, are the same in both threads."""
    many = 0
    for column, against in zip(one, other):
        if column != against:
            return many
        many = many + 1
    return many


def column_paper(labels):
    """The paper that labels of rows of one column each tell; None if there are no labels."""
    if labels is None:
        return None
    one, other = labels
    # The nought row stands first among its like.
    return ("columns",) + one + other if one else ("nought",) + other


def threads_of(w, language, state):
    """The threads of the state of w bits that programs of the language lead, each by itself."""
    columns = columns_of(w, state)
    if language == "bits":
        return [(column,) for column in columns]
    if language == "sums":
        return [columns[depth(w, state):]]
    return [columns]


def state_of_threads(n, w, threads):
    """The state of w bits with these threads, and with noughts below them."""
    columns = tuple([column for thread in threads for column in thread])
    return state_of(n, (0,) * (w - len(columns)) + columns)


def rows_of(w, language, pairs):
    """The rows that tell programs of the language where to lead the threads of each first.

    The label is the place of the pair, and for "bits" the level.
    """
    rows = [] if language == "all" else [NOUGHT_ROW]
    for p, (first, second) in enumerate(pairs):
        columns = columns_of(w, second)
        for k, thread in enumerate(threads_of(w, language, first)):
            if language == "bits":
                rows.append((thread, (columns[k],), (p, k)))
            else:
                rows.append((thread, columns[w - len(thread):], (p,)))
    return rows

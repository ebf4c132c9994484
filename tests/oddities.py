"""Any values [A3], to be handed in where a paper may stand."""

import itertools


def nested(deep, make=lambda inner: [inner]):
    value = ()
    for _ in range(deep - 1):
        value = make(value)
    return value


def any_values():
    """Values of all kinds, none of which is a paper of anything."""
    found = [None, True, False, 0, 1, -1, 10 ** 400 - 1, 1 - 10 ** 400, "", "odd", "sees\n", "x" * 20000, (), [], {}]
    found += [nested(40), nested(40, lambda inner: (inner,)), nested(40, lambda inner: {"a": inner})]
    found += [nested(40, lambda inner: ("odd", inner)), [0] * 4000, (0,) * 4000, ("odd",) * 4000]
    found += [("sees",) + (0,) * 3999, {at: ("odd", 0) for at in range(900)}, {(1, (2, "x")): [None], None: {True: 1}}]
    for word in ("sees", "odd", "unlike", "doubles", "columns", "nought", "agree", "depth", "", None, True, 0, ("odd",)):
        found += [(word, item) for item in (None, True, 0, "", (), [], {}, ("odd",), nested(38))]
        found += [(word, None, None), (word, {}, [], ()), (word, [], [], [], []), (word, "0", "0", "0", "0", "0")]
        found += [(word, 10 ** 399), (word, 10 ** 399, 10 ** 399), (word,) + (10 ** 399,) * 4, [word], {word: 0}]
    return found + [("ODD",), ("odd ",), ["odd"], "odd", {"odd": True}, (("odd",),), ("even",), (True,), (None,), ([],)]


def changed(value, items):
    """The value with each part of it, however deep, exchanged for each of the items, taken away, or put in twice."""
    found = list(items)
    if isinstance(value, (tuple, list)):
        found += [list(value), tuple(value), dict(enumerate(value)), str(value), value + value, value[::-1], value[:0]]
        for at in range(len(value)):
            ahead, behind = value[:at], value[at + 1:]
            for part in changed(value[at], items):
                found.append(ahead + value.__class__([part]) + behind)
            found += [ahead + behind, ahead + value[at:at + 1] * 2 + behind, ahead]
    if isinstance(value, int):
        found += [value + 1, value - 1, -value, str(value), bool(value), value == 1, [value], (value,), value + 2 ** 64]
    if isinstance(value, str):
        found += [value + " ", value.upper(), value[1:], "s" + value, [value], (value,)]
    return found


ITEMS = (None, True, False, 0, 1, 2, 3, -1, 10 ** 399, "", "0", (), [], {}, (0, 0, 0), (0, 1, 0), (0, True, 0), [0, 0, 0])


def spellings(papers, many):
    """Some of the papers, each also with any part of it changed."""
    step = max(1, len(papers) // many)
    return list(itertools.chain.from_iterable([paper] + changed(paper, ITEMS) for paper in papers[::step]))

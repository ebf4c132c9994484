"""Programs read term by term, each part once, however often it is done."""


def folded(program, reading):
    """What the program comes to, put together from its terms.

    The reading tells what a deed comes to (of_deed), and what comes of that of
    a row's terms (of_row), of a term undone (of_back), and of a term done once
    or oftener (of_times). What is never done is not looked at.
    """
    used = used_places(program)
    found = {}
    for place, term in enumerate(program):
        # The parts ahead are there by now, so that no part leads into another
        # one: parts may stand within one another deeper than calls may.
        if used[place]:
            found[place] = _of_term(term, found, reading)
    return found[len(program) - 1]


def used_places(program):
    """For each place of the program, whether its term is done at all."""
    used = [False] * len(program)
    used[-1] = True
    for place in reversed(range(len(program))):
        if used[place]:
            for part in _parts_in(program[place]):
                used[part] = True
    return used


def _parts_in(term):
    """The places of the parts that the term itself does, not those within them."""
    kind = term[0]
    if kind == "part":
        return [term[1]]
    if kind == "row":
        return [part for inner in term[1] for part in _parts_in(inner)]
    if kind == "do" or _is_idle(term):
        return []
    return _parts_in(term[1])


def _of_term(term, found, reading):
    """What the term comes to; found has it for the parts that are done."""
    kind = term[0]
    if kind == "do":
        return reading.of_deed(term[1])
    if kind == "part":
        return found[term[1]]
    if kind == "row":
        return reading.of_row([_of_term(inner, found, reading) for inner in term[1]])
    if kind == "back":
        return reading.of_back(_of_term(term[1], found, reading))
    if _is_idle(term):
        return reading.of_row([])
    return reading.of_times(_of_term(term[1], found, reading), term[2])


def _is_idle(term):
    """Whether the term is one that is done 0 times."""
    return term[0] == "times" and term[2] == 0

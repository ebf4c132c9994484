"""Programs written piece by piece: each piece once, used as often as need be."""


class Pieces:
    """The terms of a program that is being written."""

    def __init__(self):
        self.terms = []

    def add(self, term):
        """Puts the term behind the others; the part by which it is used."""
        self.terms.append(term)
        return ("part", len(self.terms) - 1)

    def program(self):
        """The program that does the last term."""
        return tuple(self.terms)


def row_of(terms):
    """The terms one behind another."""
    return ("row", tuple(terms))


def deeds_row(deeds):
    """The deeds one behind another."""
    return row_of([("do", deed) for deed in deeds])


def led_along(term, other):
    """The term led along by the other one: where it did something, that is done where the other one leads."""
    return row_of([("back", other), term, other])


def commutator(one, other):
    """What is left of doing both and undoing both."""
    return row_of([("back", one), ("back", other), one, other])

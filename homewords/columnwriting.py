"""Programs that lead columns, those of all levels alike."""

from homewords.errors import Unfit
from homewords.linings import lining
from homewords.pieces import Pieces, commutator, deeds_row, led_along, row_of
from homewords.rearrangements import rings_of, sign_of


class ColumnWriter:
    """Writes terms of "bits" that lead columns, with what they need among the pieces."""

    def __init__(self, n, pieces):
        self.n = n
        self.pieces = pieces
        # One ring leads 1 to 2 (from four words on to 4, too) and back to 1; all others are led from it.
        self.ring = self._first_ring()

    def term_of(self, moves):
        """A term by which each column goes to where moves has it: 0 stays, and from four words on moves is even."""
        return row_of([self._ring_term(ring) for ring in rings_of(moves, 2 if self.n == 3 else 3)])

    def and_term(self, to, places, spare):
        """A term by which the word to is turned where all words at the places have a 1, whatever spare has."""
        if len(places) == 1:
            return ("do", ("xor", to, places[0]))
        if len(places) == 2:
            return ("do", ("and", to, min(places), max(places)))
        inner = self.pieces.add(self.and_term(spare, places[1:], to))
        return commutator(self.and_term(to, [places[0], spare], spare), inner)

    def _first_ring(self):
        if self.n == 3:
            return self._lined(("do", ("and", 2, 0, 1)), (3, 7))
        last = self.n - 1
        one = self.pieces.add(self.and_term(0, list(range(1, last)), last))
        other = self.pieces.add(self.and_term(1, [0] + list(range(3, self.n)), 2))
        # Each exchanges two columns and two others, and only one column is moved by both.
        full = (1 << self.n) - 1
        return self._lined(commutator(one, other), (full, full - 2, full - 1))

    def _lined(self, term, ring):
        """The part that does to 1, 2 and so on what the term does to the columns of the ring."""
        return self.pieces.add(led_along(term, deeds_row(lining(ring))))

    def _ring_term(self, ring):
        """A term that leads each of these columns to the next one, the last one to the first."""
        lined = deeds_row(lining(ring))
        return row_of([lined, self.ring, ("back", lined)])


def column_program(n, moves):
    """A program of "bits" by which each column goes to where moves has it.

    Unfit from four words on, if moves is odd.
    """
    if n > 3 and sign_of(moves):
        raise Unfit()
    pieces = Pieces()
    writer = ColumnWriter(n, pieces)
    pieces.add(writer.term_of(moves))
    return pieces.program()

"""Programs that lead three columns of level 1 round, where column 0 is a told one, and do nothing else."""

from homewords.columnwriting import ColumnWriter
from homewords.errors import Unfit
from homewords.linings import lining, xored
from homewords.pieces import Pieces, commutator, deeds_row, led_along, row_of

# Leads the column 1 to 3, which has two bits, and leaves 2, 4 and so on.
TO_TWO_BITS = ("xor", 1, 0)


class RingWriter:
    """Writes terms that do rings to words of two bits, with what they need among the pieces."""

    def __init__(self, columns):
        self.n = columns.n
        self.columns = columns
        self.pieces = columns.pieces
        # Where column 0 is 3 it leads column 1 from 0 to 2, from 2 to 4, and from 4 to 0.
        self.first = self._first_ring()

    def term_of(self, column, ring):
        """A term that leads each column of the ring to the next one at level 1, where column 0 is this one."""
        if column == 0:
            up = ("do", ("one", 0))
            return row_of([up, self.term_of(1, ring), ("back", up)])
        for u, v, z in (ring, ring[1:] + ring[:1], ring[2:] + ring[:2]):
            if u ^ v == column:
                return self._twin_term(column, u, v, z)
        return self._lined_term(column, ring)

    def _first_ring(self):
        twice = ("times", ("do", ("add", 1, 0)), 2)
        columns = self.columns
        turn = self.pieces.add(columns.term_of(self._moves_of((4, 6, 2))))
        # Where column 0 is odd this exchanges 4 and 2, and 6 and 0; elsewhere it does nothing.
        one = self.pieces.add(commutator(twice, turn))
        # All even columns but 0 are led to odd ones, 4 to 5, 2 to 1 and 6 to 7; 3 alone is left over and stays.
        swap = row_of(self._to_other_terms() + [columns.term_of(self._moves_of((2, 1, 4)))])
        # Where column 0 is 3 or even, but not 0, this exchanges 5 and 1, and 7 and 0.
        other = self.pieces.add(led_along(one, self.pieces.add(swap)))
        # Both do something only where column 0 is 3, and of what they exchange there only 0 is the same.
        ring = self.pieces.add(commutator(one, other))
        return self.pieces.add(led_along(ring, deeds_row(lining((3, 7, 6)) + [TO_TWO_BITS])))

    def _moves_of(self, ring):
        """Where each column goes by the ring."""
        moves = list(range(1 << self.n))
        for at, column in enumerate(ring):
            moves[column] = ring[(at + 1) % len(ring)]
        return tuple(moves)

    def _to_other_terms(self):
        """Terms that turn the word 0 where any word from 2 on has a 1."""
        terms = []
        # That is the sum of the ands of all choices of these words.
        for choice in range(1, 1 << (self.n - 2)):
            places = [place for place in range(2, self.n) if choice >> (place - 2) & 1]
            terms.append(self.columns.and_term(0, places, 1))
        return terms

    def _lined_term(self, column, ring):
        """The term, if no two columns of the ring differ by the column."""
        u, v, z = ring
        deeds = lining((column, u ^ v, u ^ z)) + [TO_TWO_BITS]
        lined, shift = deeds_row(deeds), self._shift_term(xored(u, deeds))
        # Behind lined the column 0 is 3, and the ring is the first one with the image of u added to each column.
        return row_of([lined, ("back", shift), self.first, shift, ("back", lined)])

    def _shift_term(self, column):
        """A term that, where column 0 is 3, leads each column of level 1 to its sum with this one, bit by bit."""
        places = [place for place in range(self.n) if column >> place & 1]
        return row_of([("times", ("do", ("add", place, 0 if place else 1)), 2) for place in places])

    def _twin_term(self, column, u, v, z):
        """The term, if u and v differ by the column."""
        # u goes to y, and z to u; then y takes the place of v. Here no two differ by the column.
        y = self._beside((u, v, z, z ^ column))
        x = self._beside((u, v, z, y, y ^ column))
        along = self.pieces.add(self._lined_term(column, (y, v, x)))
        return led_along(self._lined_term(column, (u, y, z)), along)

    def _beside(self, columns):
        """The first column that is none of these."""
        return [column for column in range(1 << self.n) if column not in columns][0]


def ring_program(n, language, column, u, v, z):
    """A program of the language that, where column 0 is this one, leads column 1 from u to v to z to u, and no more.

    Unfit if two of u, v, z are alike, or for "sums" with the column 0.
    """
    if u == v or v == z or z == u or (language == "sums" and column == 0):
        raise Unfit()
    pieces = Pieces()
    writer = RingWriter(ColumnWriter(n, pieces))
    pieces.add(writer.term_of(column, (u, v, z)))
    return pieces.program()

"""Programs written from tables."""

from homewords.columns import state_of
from homewords.columnwriting import ColumnWriter
from homewords.doing import table_of
from homewords.errors import Barred
from homewords.levels import moved
from homewords.marks import mark_paper
from homewords.pieces import Pieces, row_of
from homewords.rearrangements import rings_of
from homewords.ringwriting import RingWriter
from homewords.tables import both, still, undone_table


def written(n, w, language, table):
    """A program of the language whose table is this one; Barred with a paper if there is none."""
    paper = mark_paper(n, w, language, table)
    if paper is not None:
        raise Barred(paper)
    pieces = Pieces()
    columns = ColumnWriter(n, pieces)
    first = pieces.add(_level_term(columns, moved(n, w, table, 0, (0,) * n)))
    rest = both(undone_table(table_of(n, w, pieces.program())), table)
    if rest != still(n, w):
        pieces.add(row_of([first] + _ring_parts(RingWriter(columns), rest)))
    return pieces.program()


def _level_term(columns, moves):
    """A term that leads the columns of level 0 so; in "all" 0 may go elsewhere."""
    lift = moves[0]
    # The other levels go along, all by the same sign as this one.
    stay = columns.term_of(tuple([column ^ lift for column in moves]))
    ups = [("do", ("one", place)) for place in range(columns.n) if lift >> place & 1]
    return row_of([stay] + ups)


def _ring_parts(writer, rest):
    """Parts that together do a table of words of two bits that leaves level 0: one for each column there."""
    n = writer.n
    parts = []
    for column in range(1 << n):
        rings = rings_of(moved(n, 2, rest, 1, state_of(n, (column,))), 3)
        if rings:
            parts.append(writer.pieces.add(row_of([writer.term_of(column, ring) for ring in rings])))
    return parts

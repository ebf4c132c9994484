"""The examples of the document, word for word, and those of README.md."""

import pathlib
import unittest

from tests.examples import run_examples

PART_A = """
>>> from homewords.states import state_number
>>> state_number(4, (5, 3, 8)), state_number(1, (0, 1, 1)), state_number(64, (0, 0, 1, 0)) == 2 ** 64
(1336, 3, True)
>>> from homewords.columns import agree, column_of, columns_of, depth, halved, low_part, state_of
>>> columns_of(4, (5, 3, 8)), column_of((5, 3, 8), 0), column_of((5, 3, 8), 3), column_of((5, 3, 8), 9)
((3, 2, 1, 4), 3, 4, 0)
>>> state_of(3, (3, 2, 1, 4)), state_of(3, (7,)), state_of(4, (0, 8))
((5, 3, 8), (1, 1, 1), (0, 0, 0, 2))
>>> low_part((5, 3, 8), 2), low_part((5, 3, 8), 0), low_part((5, 3, 8), 7), halved((5, 3, 8), 1), halved((8, 4, 12), 2)
((1, 3, 0), (0, 0, 0), (5, 3, 8), (2, 1, 4), (2, 1, 3))
>>> agree(4, (5, 3, 8), (13, 3, 8)), agree(4, (5, 3, 8), (5, 3, 8)), agree(4, (5, 3, 8), (4, 3, 8)), agree(4, (5, 3, 8), (5, 1, 0))
(3, 4, 0, 1)
>>> depth(4, (5, 3, 8)), depth(4, (8, 4, 12)), depth(4, (0, 0, 0)), depth(64, (0, 2 ** 63, 0))
(0, 2, 4, 63)
"""

PART_B = """
>>> from homewords.deeds import done, undone
>>> [done(3, (5, 6, 3), deed) for deed in (("add", 0, 1), ("xor", 0, 1), ("and", 0, 1, 2), ("one", 2))]
[(3, 6, 3), (3, 6, 3), (7, 6, 3), (5, 6, 4)]
>>> [undone(3, (5, 6, 0), deed) for deed in (("add", 0, 1), ("xor", 0, 1), ("and", 0, 1, 2), ("one", 2))]
[(7, 6, 0), (3, 6, 0), (5, 6, 0), (5, 6, 7)]
>>> from homewords.programs import language_of, length, sign_parity
>>> swap = (("do", ("xor", 0, 1)), ("do", ("xor", 1, 0)), ("row", (("part", 0), ("part", 1), ("part", 0))))
>>> idle = (("do", ("one", 0)), ("do", ("add", 1, 2)), ("do", ("and", 0, 1, 2)), ("row", (("times", ("part", 0), 0), ("back", ("part", 1)), ("times", ("part", 2), 3))))
>>> length(swap), language_of(swap), sign_parity(swap), length(idle), language_of(idle), sign_parity(idle), language_of(idle[:1])
(3, 'bits', 0, 4, 'sums', 1, 'all')
>>> length((("times", ("row", ()), 10 ** 30),)), language_of((("row", ()),)), length((idle[0], ("times", ("part", 0), 10 ** 30))) == 10 ** 30
(0, 'bits', True)
>>> length((idle[0],) + tuple([("times", ("part", i), 10 ** 30) for i in range(11)]))
raises TooMany
>>> from homewords.runs import run
>>> run(3, 4, swap, (5, 9, 2)), run(3, 4, idle, (5, 9, 2)), run(3, 4, idle + (("back", ("part", 3)),), (7, 7, 2))
((9, 5, 2), (7, 7, 2), (5, 9, 2))
>>> run(3, 64, (idle[1], ("times", ("part", 0), 5000)), (1, 2, 2 ** 63 + 3)) == (1, 15002, 2 ** 63 + 3)
True
>>> run(3, 4, (idle[1], ("times", ("part", 0), 5001)), (1, 2, 3))
raises TooMany(5000)
"""

PART_C = """
>>> from homewords.tables import both, deed_table, still, undone_table
>>> still(3, 1), deed_table(3, 1, ("xor", 0, 1)), deed_table(3, 1, ("add", 0, 1)) == deed_table(3, 1, ("xor", 0, 1))
((0, 1, 2, 3, 4, 5, 6, 7), (0, 1, 6, 7, 4, 5, 2, 3), True)
>>> deed_table(3, 1, ("and", 0, 1, 2)), deed_table(3, 1, ("one", 2)), len(deed_table(3, 2, ("add", 0, 1))), deed_table(3, 2, ("add", 0, 1))[57]
((0, 1, 2, 7, 4, 5, 6, 3), (1, 0, 3, 2, 5, 4, 7, 6), 64, 25)
>>> turn = both(deed_table(3, 1, ("xor", 0, 1)), deed_table(3, 1, ("xor", 1, 2)))
>>> turn, undone_table(turn), both(turn, turn)
((0, 3, 6, 5, 4, 7, 2, 1), (0, 7, 6, 1, 4, 3, 2, 5), (0, 5, 2, 7, 4, 1, 6, 3))
>>> from homewords.doing import led, table_of
>>> deeds = (("do", ("xor", 0, 1)), ("do", ("xor", 1, 2)))
>>> table_of(3, 1, (("row", deeds),)) == turn, table_of(3, 1, deeds + (("back", ("row", (("part", 0), ("part", 1)))),)) == undone_table(turn)
(True, True)
>>> table_of(3, 1, (("row", deeds), ("times", ("part", 0), 10 ** 30 - 2))) == both(turn, turn), table_of(3, 1, deeds) == deed_table(3, 1, ("xor", 1, 2))
(True, True)
>>> led(3, 1, turn, (0, 0, 1)), led(3, 2, deed_table(3, 2, ("add", 0, 1)), (3, 2, 1)), led(3, 2, still(3, 2), (3, 2, 1))
((0, 1, 1), (1, 2, 1), (3, 2, 1))
"""

PART_D_LEVELS = """
>>> from homewords.levels import level_signs, moved
>>> from homewords.tables import deed_table, still
>>> plus, both_bits, one = deed_table(3, 2, ("add", 0, 1)), deed_table(3, 2, ("and", 0, 1, 2)), deed_table(3, 2, ("one", 0))
>>> moved(3, 2, plus, 0, (0, 0, 0)), moved(3, 2, plus, 1, (1, 1, 0)), moved(3, 2, both_bits, 1, (0, 0, 0))
((0, 1, 3, 2, 4, 5, 7, 6), (1, 0, 2, 3, 5, 4, 6, 7), (0, 1, 2, 3, 4, 5, 7, 6))
>>> level_signs(3, 2, both_bits, 0), level_signs(3, 2, both_bits, 1), level_signs(3, 2, plus, 1)
((1,), (1, 1, 1, 1, 1, 1, 1, 1), (0, 0, 0, 0, 0, 0, 0, 0))
>>> swapped = (16,) + still(3, 2)[1:16] + (0,) + still(3, 2)[17:]
>>> level_signs(3, 2, swapped, 1)
raises Unfit()
"""

PART_D_PAPERS = PART_D_LEVELS[:PART_D_LEVELS.rindex(">>> level_signs")] + """
>>> from homewords.marks import asked, mark_paper
>>> [asked(3, 2, table) for table in (still(3, 2), both_bits, plus, one, swapped)]
['bits', 'bits', 'sums', 'all', None]
>>> mark_paper(3, 2, "sums", plus), mark_paper(3, 2, "all", plus), mark_paper(4, 1, "bits", deed_table(4, 1, ("and", 0, 1, 2)))
(None, None, None)
>>> from homewords.papers import paper_holds
>>> top = (32,) + still(3, 2)[1:32] + (0,) + still(3, 2)[33:]
>>> level_signs(3, 2, top, 1), paper_holds(3, 2, "all", top, ("unlike", 1, (0, 0, 0), 0, (0, 0, 0))), paper_holds(3, 2, "all", top, ("odd", 1, (0, 0, 0)))
((1, 0, 0, 0, 0, 0, 0, 0), True, False)
>>> [paper_holds(3, 2, "all", swapped, value) for value in (("sees", 1, (0, 0, 0), (2, 0, 0)), ("sees", 1, (0, 0, 0), (1, 0, 0)), ("sees", 0, (0, 0, 0), (2, 0, 0)), ["sees", 1, (0, 0, 0), (2, 0, 0)], None)]
[True, False, False, False, False]
>>> paper_holds(3, 2, "sums", one, ("doubles", (0, 0, 0))), paper_holds(3, 2, "all", one, ("doubles", (0, 0, 0))), paper_holds(3, 2, "sums", plus, ("doubles", (1, 1, 0)))
(True, False, False)
>>> paper_holds(3, 2, "bits", plus, ("nought", 1, (1, 1, 0))), paper_holds(3, 2, "bits", plus, ("columns", 1, (1, 1, 0), 0, (0, 0, 0))), paper_holds(3, 2, "bits", both_bits, ("columns", 0, (1, 1, 0), 1, (2, 2, 0)))
(True, True, False)
>>> turned = (0, 2, 1) + still(4, 1)[3:]
>>> [paper_holds(4, 1, language, turned, value) for language, value in (("bits", ("odd",)), ("all", ("odd", 0, (0, 0, 0, 0))), ("sums", ("odd",)))]
[True, True, False]
>>> from homewords.sizes import table_count
>>> [table_count(n, 1, language) for n in (3, 4) for language in ("bits", "sums", "all")]
[5040, 5040, 40320, 653837184000, 653837184000, 10461394944000]
>>> table_count(3, 2, "bits"), table_count(3, 2, "sums") == 5040 * 20160 ** 7, table_count(3, 2, "all") == 2 * 20160 ** 9
(5040, True, True)
"""

PART_E_COLUMNS = """
>>> from homewords.columnwriting import column_program
>>> from homewords.doing import led, table_of
>>> swap = column_program(3, (0, 1, 2, 7, 4, 5, 6, 3))
>>> [led(3, 2, table_of(3, 2, swap), state) for state in ((1, 1, 0), (1, 1, 1), (1, 0, 1), (3, 2, 0), (2, 3, 2))]
[(1, 1, 1), (1, 1, 0), (1, 0, 1), (3, 2, 2), (2, 3, 0)]
>>> column_program(4, (0, 1, 2, 7, 4, 5, 6, 3) + tuple(range(8, 16)))
raises Unfit()
"""

PART_E_RINGS = """
>>> from homewords.doing import led, table_of
>>> from homewords.ringwriting import ring_program
>>> ring = table_of(3, 2, ring_program(3, "sums", 7, 0, 1, 2))
>>> [led(3, 2, ring, state) for state in ((1, 1, 1), (3, 1, 1), (1, 3, 1), (1, 1, 3), (1, 0, 1), (2, 0, 0))]
[(3, 1, 1), (1, 3, 1), (1, 1, 1), (1, 1, 3), (1, 0, 1), (2, 0, 0)]
>>> low = table_of(3, 2, ring_program(3, "all", 0, 1, 4, 6))
>>> [led(3, 2, low, state) for state in ((2, 0, 0), (0, 0, 2), (0, 2, 2), (0, 0, 0), (2, 0, 1))]
[(0, 0, 2), (0, 2, 2), (2, 0, 0), (0, 0, 0), (2, 0, 1)]
>>> ring_program(3, "sums", 0, 1, 2, 4)
raises Unfit()
>>> ring_program(4, "all", 3, 5, 5, 6)
raises Unfit()
"""

PART_E_WRITING = """
>>> from homewords.doing import table_of
>>> from homewords.marks import mark_paper
>>> from homewords.tables import both, deed_table, still
>>> from homewords.writing import written
>>> some = both(deed_table(3, 2, ("add", 0, 1)), deed_table(3, 2, ("and", 2, 0, 1)))
>>> [table_of(3, 2, written(3, 2, language, some)) == some for language in ("sums", "all")]
[True, True]
>>> more = deed_table(3, 2, ("one", 0))
>>> table_of(3, 2, written(3, 2, "all", more)) == more, table_of(5, 1, written(5, 1, "bits", still(5, 1))) == still(5, 1)
(True, True)
"""

PART_F_PAIRS = """
>>> from homewords.columns import state_of
>>> from homewords.pairpapers import pair_holds, pair_paper
>>> some = (((1, 0, 0), (0, 1, 0)),)
>>> deeper, apart = some + (((2, 0, 0), (2, 0, 0)),), some + (((3, 0, 0), (0, 0, 1)),)
>>> [pair_paper(3, 2, "sums", value) for value in (some, ((some[0][0], some[0][0]),), (((2, 0, 0), (0, 0, 2)),), ())]
[None, None, None, None]
>>> [pair_holds(3, 2, word, deeper, ("agree", 0, 1)) for word in ("bits", "sums", "all")], pair_paper(3, 2, "all", deeper), pair_holds(3, 2, "bits", deeper, ("columns", 0, 0, 1, 1))
([False, True, False], None, True)
>>> pair_holds(3, 2, "all", apart, ("agree", 0, 1)), pair_holds(3, 2, "all", apart, ("agree", 1, 0)), pair_holds(3, 2, "sums", (((2, 0, 0), (1, 0, 0)),), ("depth", 0))
(True, False, True)
>>> each = [state_of(4, (column,)) for column in range(1, 16)]
>>> turned = tuple(zip(each, each[1::-1] + each[2:]))
>>> pair_holds(4, 1, "bits", turned, ("odd",)), pair_holds(4, 1, "sums", turned, ("odd", 0, (0, 0, 0, 0))), pair_holds(4, 1, "sums", turned[:-1], ("odd", 0, (0, 0, 0, 0))), pair_paper(4, 1, "sums", turned[:-2])
(True, True, True, None)
>>> low = [state_of(3, (column, 0)) for column in range(8)]
>>> high = [state_of(3, (1, column)) for column in (1, 2, 3, 4, 5, 6, 7)]
>>> rows = tuple(zip(low + high, low + high[1::-1] + high[2:]))
>>> pair_holds(3, 2, "all", rows, ("unlike", 0, (0, 0, 0), 1, (1, 0, 0))), pair_holds(3, 2, "sums", rows, ("unlike", 1, (1, 0, 0), 0, (0, 0, 0))), pair_paper(3, 2, "all", rows[1:-2])
(True, True, None)
"""

PART_F_FINISHING = PART_F_PAIRS + """
>>> from homewords.finishing import finish_count, finished, tells
>>> from homewords.marks import mark_paper
>>> from homewords.states import state_number
>>> found = finished(3, 2, "sums", some)
>>> found[state_number(2, (1, 0, 0))] == state_number(2, (0, 1, 0)), mark_paper(3, 2, "sums", found)
(True, None)
>>> [finish_count(3, 1, word, ()) for word in ("bits", "sums", "all")], [finish_count(3, 1, word, some) for word in ("bits", "sums", "all")], finish_count(3, 2, "sums", some) == 2 * 360 * 2520 * 20160 ** 6
([5040, 5040, 40320], [720, 720, 5040], True)
>>> finish_count(4, 1, "sums", turned), finish_count(4, 1, "sums", turned[2:]), finish_count(4, 1, "all", turned[2:]), finish_count(3, 2, "sums", deeper)
(0, 1, 3, 0)
>>> tells(3, 2, "sums", some, (1, 0, 0)), tells(3, 2, "sums", some, (2, 0, 0)), tells(3, 2, "sums", some, (3, 0, 0)), tells(3, 2, "all", some, (2, 0, 0)), tells(3, 2, "bits", some, (3, 0, 0))
((0, 1, 0), (0, 2, 0), None, None, (0, 3, 0))
>>> tells(4, 1, "sums", turned[2:], (1, 0, 0, 0)), tells(4, 1, "bits", turned[2:], (0, 1, 0, 0)), tells(4, 1, "sums", turned[3:], (1, 0, 0, 0)), tells(4, 1, "all", turned[2:], (1, 0, 0, 0)), tells(4, 1, "sums", turned[3:], (1, 0, 1, 0))
((1, 0, 0, 0), (0, 1, 0, 0), None, None, (1, 0, 1, 0))
>>> tells(3, 2, "sums", deeper, (1, 0, 0))
raises Unfit()
"""

README = pathlib.Path(__file__).resolve().parent.parent / "README.md"


class ExamplesTest(unittest.TestCase):
    def test_part_a(self):
        run_examples(self, PART_A, {})

    def test_part_b(self):
        run_examples(self, PART_B, {})

    def test_part_c(self):
        run_examples(self, PART_C, {})

    def test_part_d_levels(self):
        run_examples(self, PART_D_LEVELS, {})

    def test_part_d_papers(self):
        run_examples(self, PART_D_PAPERS, {})

    def test_part_e_columns(self):
        run_examples(self, PART_E_COLUMNS, {})

    def test_part_e_rings(self):
        run_examples(self, PART_E_RINGS, {})

    def test_part_e_writing(self):
        run_examples(self, PART_E_WRITING, {})

    def test_part_f_pairs(self):
        run_examples(self, PART_F_PAIRS, {})

    def test_part_f_finishing(self):
        run_examples(self, PART_F_FINISHING, {})

    def test_readme(self):
        text = README.read_text(encoding="utf-8")
        text = text[text.index("## How to use it"):text.index("## How to run its tests")]
        rows = [row[4:] for row in text.splitlines() if row.startswith("    ")]
        self.assertGreater(len(rows), 20)
        run_examples(self, "\n".join(rows), {})


if __name__ == "__main__":
    unittest.main()

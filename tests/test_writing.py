"""Programs written from tables, or a paper that there is none [E3], [E5], [A2]."""

import random
import unittest

from homewords.columnwriting import column_program
from homewords.doing import table_of
from homewords.errors import Barred, WordsError
from homewords.marks import asked, mark_paper
from homewords.papers import paper_holds
from homewords.ringwriting import ring_program
from homewords.tables import both, deed_table, still, undone_table
from homewords.writing import written
from tests.crafted import (
    LANGUAGES, done_tables, drawn_columns, drawn_level_table, drawn_row, is_done, spoilt_tables, turned_columns,
)
from tests.limits import is_program_of
from tests.samples import all_states, deeds, drawn_tables, table_by_moves, triangular_tables

SIZES = ((3, 1), (3, 2), (4, 1), (4, 2), (5, 1))


class WritingCase(unittest.TestCase):
    def check_written(self, n, w, language, table):
        """Either a program of the language that does the table is told, or a paper; returns whether a program is."""
        paper = mark_paper(n, w, language, table)
        self.assertEqual(paper is None, is_done(n, w, language, table))
        if paper is None:
            program = written(n, w, language, table)
            self.assertTrue(is_program_of(n, language, program), (n, w, language))
            self.assertEqual(table_of(n, w, program), table, (n, w, language))
            return True
        with self.assertRaises(Barred) as caught:
            written(n, w, language, table)
        self.assertIsInstance(caught.exception, WordsError)
        self.assertEqual(list(vars(caught.exception)), ["paper"])
        self.assertTrue(paper_holds(n, w, language, table, caught.exception.paper))
        return False

    def check_all(self, n, w, table):
        """What is written in a language is written in those behind it; returns the first one."""
        done = [language for language in LANGUAGES if self.check_written(n, w, language, table)]
        self.assertEqual(done, list(LANGUAGES[len(LANGUAGES) - len(done):]))
        self.assertEqual(asked(n, w, table), done[0] if done else None)
        return done[0] if done else None


class WrittenTest(WritingCase):
    def test_each_deed(self):
        for n, w in SIZES:
            for deed in deeds(n)[::1 if n * w < 6 else 9] + [("one", n - 1), ("add", 2, 0)]:
                language = {"add": "bits" if w == 1 else "sums", "one": "all"}.get(deed[0], "bits")
                self.assertEqual(self.check_all(n, w, deed_table(n, w, deed)), language)

    def test_few_deeds(self):
        for n, w in SIZES:
            draw = random.Random(f"few deeds {n} {w}")
            for language in LANGUAGES:
                for many in (2, 5, 30):
                    table = table_of(n, w, drawn_row(draw, n, language, many))
                    for tried in (table, undone_table(table)):
                        found = self.check_all(n, w, tried)
                        self.assertLessEqual(LANGUAGES.index(found), LANGUAGES.index(language))

    def test_drawn_level_by_level(self):
        for n, w in SIZES:
            for language, table, _ in done_tables(n, w, 2 if n * w > 6 else 5):
                self.assertIn(self.check_all(n, w, table), LANGUAGES)
                self.assertTrue(self.check_written(n, w, language, undone_table(table)))

    def test_both_signs_of_three_words(self):
        for w in (1, 2):
            for sign in (0, 1):
                draw = random.Random(f"signs {w} {sign}")
                for _ in range(5):
                    moves = {(k, low): drawn_columns(draw, 3, sign) for k in range(w) for low in all_states(3, k)}
                    self.assertTrue(self.check_written(3, w, "all", table_by_moves(3, w, moves)))
                    moves[0, (0, 0, 0)] = drawn_columns(draw, 3, sign, True)
                    if w == 2:
                        moves[1, (0, 0, 0)] = moves[0, (0, 0, 0)]
                    self.assertTrue(self.check_written(3, w, "sums", table_by_moves(3, w, moves)))

    def test_all_levels_alike(self):
        for n, w in SIZES:
            draw = random.Random(f"alike {n} {w}")
            for sign in (0, 1):
                alike = drawn_columns(draw, n, sign, True)
                table = table_by_moves(n, w, {(k, low): alike for k in range(w) for low in all_states(n, k)})
                self.assertEqual(self.check_all(n, w, table), "bits" if n == 3 or sign == 0 else None)

    def test_rings_and_column_programs(self):
        for n in (3, 4):
            draw = random.Random(f"rings {n}")
            for column in (0, 1, 2 ** n - 1):
                ring = table_of(n, 2, ring_program(n, "all", column, *draw.sample(range(2 ** n), 3)))
                self.assertEqual(self.check_all(n, 2, ring), "sums" if column else "all")
                columns = table_of(n, 2, column_program(n, drawn_columns(draw, n, 0, True)))
                self.assertEqual(self.check_all(n, 2, columns), "bits")
                self.assertEqual(self.check_all(n, 2, both(columns, ring)), "sums" if column else "all")

    def test_still(self):
        for n, w in SIZES:
            self.assertEqual(self.check_all(n, w, still(n, w)), "bits")

    def test_rings_at_each_column(self):
        # A drawn even rearrangement at one column of level 0, and nothing else.
        for n in (3, 4):
            for column in (0, 1, 2, 2 ** n - 1):
                draw = random.Random(f"one column {n} {column}")
                moves = {(k, low): tuple(range(2 ** n)) for k in range(2) for low in all_states(n, k)}
                low = tuple(column >> place & 1 for place in range(n))
                for rearranged in (drawn_columns(draw, n, 0), turned_columns(n, [0, 1, 2]), turned_columns(n, [1, 2, 3])):
                    table = table_by_moves(n, 2, {**moves, (1, low): rearranged})
                    self.assertEqual(self.check_all(n, 2, table), "sums" if column else "all")


class BarredTest(WritingCase):
    def test_spoilt_tables(self):
        met = set()
        for n, w in SIZES:
            draw = random.Random(f"spoilt writing {n} {w}")
            for _, table, _ in done_tables(n, w, 1):
                for spoilt in spoilt_tables(n, w, table, draw)[::2 if n * w > 6 else 1]:
                    met.add(self.check_all(n, w, spoilt))
        self.assertEqual(met, {None, "bits", "sums", "all"})

    def test_drawn_tables(self):
        for n, w in SIZES:
            for table in drawn_tables(n, w, 2) + triangular_tables(n, w, 2):
                self.check_all(n, w, table)

    def test_arguments_stay_and_calls_are_equal(self):
        for n, w in ((3, 1), (3, 2), (4, 1)):
            draw = random.Random(f"equal writing {n} {w}")
            for language in LANGUAGES:
                table = drawn_level_table(draw, n, w, language)
                before = repr(table)
                first = written(n, w, language, table)
                kept = repr(first)
                self.assertEqual(written(table=tuple(list(table)), language=language, w=w, n=n), first)
                self.assertEqual((repr(table), repr(first)), (before, kept))
                barred = spoilt_tables(n, w, table, draw)[0]
                papers = []
                for _ in range(2):
                    try:
                        written(n=n, w=w, language="bits", table=barred)
                    except Barred as error:
                        papers.append(error.paper)
                self.assertIn(len(papers), (0, 2))
                self.assertEqual(papers[:1], papers[1:])


if __name__ == "__main__":
    unittest.main()

"""Which tables can be done by which language, and a paper for those that can't [A2], [D3], [D6]."""

import random
import unittest

from homewords.doing import table_of
from homewords.marks import asked, mark_paper
from homewords.papers import paper_holds
from homewords.programs import language_of
from homewords.tables import both, deed_table, still, undone_table
from tests.crafted import (
    LANGUAGES, all_papers, done_tables, drawn_columns, drawn_level_table, drawn_row, is_done, spoilt_tables,
    turned_columns, with_cycle,
)
from tests.samples import SIZES, all_states, deeds, drawn_tables, programs, table_by_moves, triangular_tables


def from_on(language):
    """The language and those behind it."""
    return LANGUAGES[LANGUAGES.index(language):]


class MarksCase(unittest.TestCase):
    def check_done(self, n, w, language, table):
        for other in from_on(language):
            self.assertIsNone(mark_paper(n, w, other, table), (n, w, other))
        self.assertIn(asked(n, w, table), LANGUAGES[:LANGUAGES.index(language) + 1])

    def check_marks(self, n, w, table):
        """Each mark is as [A2] tells; returns the languages that are refused."""
        done = [language for language in LANGUAGES if is_done(n, w, language, table)]
        for language in LANGUAGES:
            paper = mark_paper(n, w, language, table)
            self.assertEqual(paper is None, language in done, (n, w, language, paper))
            if paper is not None:
                self.assertIs(paper.__class__, tuple)
                self.assertIs(paper_holds(n, w, language, table, paper), True, (n, w, language, paper))
        self.assertEqual(asked(n, w, table), done[0] if done else None)
        self.assertEqual(done, list(LANGUAGES[len(LANGUAGES) - len(done):]))
        return [language for language in LANGUAGES if language not in done]


class DoneTest(MarksCase):
    def test_each_deed(self):
        for n, w in SIZES:
            for deed in deeds(n)[::1 if n < 6 else 7] + [("one", 0)]:
                table = deed_table(n, w, deed)
                # With one bit a sum is an exclusive one; a 1 more moves noughts all the same.
                language = {"add": "bits" if w == 1 else "sums", "one": "all"}.get(deed[0], "bits")
                self.check_done(n, w, language, table)
                self.assertEqual(asked(n, w, table), language)

    def test_programs_of_each_language(self):
        for n, w in SIZES:
            draw = random.Random(f"marks {n} {w}")
            for language in LANGUAGES:
                one, other = (table_of(n, w, drawn_row(draw, n, language, many)) for many in (3, 12))
                for table in (one, other, both(one, other), both(other, undone_table(one)), undone_table(other)):
                    self.check_done(n, w, language, table)

    def test_drawn_programs(self):
        for n, w in ((3, 1), (3, 2), (4, 1), (4, 2), (5, 1)):
            for program in programs(n, 25):
                self.check_done(n, w, language_of(program), table_of(n, w, program))

    def test_two_languages_put_together(self):
        for n, w in ((3, 2), (4, 2)):
            draw = random.Random(f"together {n}")
            for one in LANGUAGES:
                for other in LANGUAGES:
                    table = both(drawn_level_table(draw, n, w, one), drawn_level_table(draw, n, w, other))
                    greater = max(one, other, key=LANGUAGES.index)
                    self.check_done(n, w, greater, table)
                    self.check_done(n, w, greater, undone_table(table))

    def test_drawn_level_by_level(self):
        for n, w in SIZES:
            for language, table, _ in done_tables(n, w, 3):
                self.assertTrue(is_done(n, w, language, table))
                self.check_done(n, w, language, table)

    def test_still(self):
        for n, w in SIZES:
            self.check_done(n, w, "bits", still(n, w))
            self.assertEqual(asked(n, w, still(n, w)), "bits")

    def test_all_that_three_words_of_one_bit_do(self):
        # Whatever deeds lead to, one behind another, from the table that leaves all.
        for language, many in (("bits", 5040), ("sums", 5040), ("all", 40320)):
            kinds = {"bits": ("xor", "and"), "sums": ("xor", "and", "add"), "all": ("xor", "and", "add", "one")}
            steps = [deed_table(3, 1, deed) for deed in deeds(3) if deed[0] in kinds[language]]
            met = {still(3, 1)}
            ahead = list(met)
            while ahead:
                ahead = {tuple(step[number] for number in table) for table in ahead for step in steps} - met
                met |= ahead
            self.assertEqual(len(met), many)
            for table in sorted(met)[::11]:
                self.assertIsNone(mark_paper(3, 1, language, table))
            # Of all tables just those that 0 leaves are led to by the first two.
            for table in drawn_tables(3, 1, 300):
                self.assertEqual(mark_paper(3, 1, language, table) is None, table in met)


class RefusedTest(MarksCase):
    def test_spoilt_tables(self):
        met = {}
        for n, w in SIZES:
            draw = random.Random(f"spoilt {n} {w}")
            for language, table, _ in done_tables(n, w, 1 if n * w > 7 else 2):
                for spoilt in spoilt_tables(n, w, table, draw):
                    refused = tuple(self.check_marks(n, w, spoilt))
                    met[refused] = met.get(refused, 0) + 1
        self.assertEqual(set(met), {LANGUAGES[:many] for many in range(4)})

    def test_drawn_tables(self):
        for n, w in SIZES:
            for table in drawn_tables(n, w, 2) + triangular_tables(n, w, 3):
                self.check_marks(n, w, table)

    def test_papers_are_those_of_the_document(self):
        for n, w in ((3, 1), (4, 1), (5, 1), (3, 2)):
            draw = random.Random(f"papers {n} {w}")
            for language, table, _ in done_tables(n, w, 1):
                for spoilt in spoilt_tables(n, w, table, draw):
                    for asked_for in LANGUAGES:
                        papers = all_papers(n, w, asked_for, spoilt)
                        paper = mark_paper(n, w, asked_for, spoilt)
                        self.assertEqual(paper is None, not papers)
                        self.assertTrue(paper is None or repr(paper) in papers, paper)

    def test_noughts_moved(self):
        for n, w in SIZES:
            table = both(still(n, w), deed_table(n, w, ("one", n - 1)))
            self.assertEqual(self.check_marks(n, w, table), ["bits", "sums"])
            self.assertEqual(mark_paper(n, w, "bits", table)[0], "nought")

    def test_doubles_gone_elsewhere(self):
        for n in (3, 4):
            # At level 1 three columns are turned about behind the column 0 alone, evenly.
            doubles = [tuple(2 * bit for bit in state) for state in all_states(n, 1)[1:4]]
            table = with_cycle(n, 2, still(n, 2), doubles)
            self.assertEqual(self.check_marks(n, 2, table), ["bits", "sums"])
            self.assertEqual(mark_paper(n, 2, "sums", table)[0], "doubles")

    def test_two_levels_unlike(self):
        for n in (3, 4):
            draw = random.Random(f"unlike levels {n}")
            for signs in ((0, 0), (0, 1), (1, 0), (1, 1)):
                low, high = (drawn_columns(draw, n, sign, True) for sign in signs)
                moves = {(0, (0,) * n): low, **{(1, part): high for part in all_states(n, 1)}}
                moves[1, (0,) * n] = low
                refused = self.check_marks(n, 2, table_by_moves(n, 2, moves))
                fits = signs[0] == signs[1] if n == 3 else signs == (0, 0)
                self.assertEqual(refused, ["bits"] if fits else list(LANGUAGES))

    def test_signs_behind_one_low_part(self):
        for n, kind in ((3, "unlike"), (4, "odd")):
            for low in all_states(n, 1)[::3]:
                for ring, refused in (([1, 2], True), ([1, 2, 4], False), ([0, 5], True), ([0, 5, 3], False)):
                    moves = {(k, part): tuple(range(2 ** n)) for k in range(2) for part in all_states(n, k)}
                    moves[1, low] = turned_columns(n, ring)
                    table = table_by_moves(n, 2, moves)
                    self.check_marks(n, 2, table)
                    paper = mark_paper(n, 2, "all", table)
                    self.assertEqual(paper and paper[0], kind if refused else None)

    def test_odd_columns(self):
        for n in range(3, 9):
            table = table_by_moves(n, 1, {(0, (0,) * n): turned_columns(n, [1, 2])})
            self.assertEqual(self.check_marks(n, 1, table), [] if n == 3 else list(LANGUAGES))
            table = table_by_moves(n, 1, {(0, (0,) * n): turned_columns(n, [0, 2])})
            self.assertEqual(self.check_marks(n, 1, table), ["bits", "sums"] if n == 3 else list(LANGUAGES))

    def test_a_third_level(self):
        # Somewhat beyond MAX_BITS.
        draw = random.Random("third level")
        for language in LANGUAGES:
            table = drawn_level_table(draw, 3, 3, language)
            self.check_done(3, 3, language, table)
            for spoilt in spoilt_tables(3, 3, table, draw):
                self.check_marks(3, 3, spoilt)


if __name__ == "__main__":
    unittest.main()

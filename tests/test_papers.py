"""Papers of tables: held and not held, for each language, and any values [D4], [D6], [A3]."""

import ast
import copy
import random
import unittest

from homewords.papers import paper_holds
from homewords.tables import both, deed_table, still
from tests.crafted import (
    LANGUAGES, all_papers, done_tables, drawn_columns, drawn_row, spoilt_tables, turned_columns, with_cycle,
)
from tests.oddities import any_values, spellings
from tests.samples import (
    SIZES, all_states, drawn_tables, exchanged, number_by_words, table_by_moves, table_by_steps, triangular_tables,
)

STILL = still(3, 2)
PLUS, BOTH, ONE = (deed_table(3, 2, deed) for deed in (("add", 0, 1), ("and", 0, 1, 2), ("one", 0)))
NOUGHTS = (0, 0, 0)
# (0, 0, 0) and (1, 0, 0) exchanged, and (0, 0, 0) and (2, 0, 0).
SWAPPED = exchanged(STILL, 0, 16)
TOP = exchanged(STILL, 0, 32)


def some_tables(n, w, many):
    draw = random.Random(f"papers of {n} {w}")
    found = drawn_tables(n, w, 1) + triangular_tables(n, w, 2)
    for _, table, _ in done_tables(n, w, 1):
        found += [table] + spoilt_tables(n, w, table, draw)
    return draw.sample(found, min(many, len(found)))


class PapersCase(unittest.TestCase):
    def holds(self, n, w, language, table, value):
        found = paper_holds(n, w, language, table, value)
        self.assertIn(found, (True, False))
        self.assertIs(found.__class__, bool)
        return found

    def check(self, expected, n, w, languages, table, *values):
        """In the told languages the values are papers of the table, in the others they are none."""
        for language in LANGUAGES:
            for value in values:
                found = self.holds(n, w, language, table, value)
                self.assertEqual(found, expected and language in languages, (language, value))


class EachSortTest(PapersCase):
    def test_sees(self):
        pair = ((0, 0, 0), (2, 0, 0))
        self.check(True, 3, 2, ("sums", "all"), SWAPPED, ("sees", 1) + pair, ("sees", 1) + pair[::-1])
        self.check(True, 3, 2, ("sums", "all"), SWAPPED, ("sees", 1, (1, 2, 0), (1, 0, 0)))
        # Images alike, states not alike below 1, one state twice, k below 1 and beyond the levels.
        self.check(False, 3, 2, (), SWAPPED, ("sees", 1, (2, 0, 0), (2, 2, 0)), ("sees", 1, (0, 0, 0), (1, 0, 0)))
        self.check(False, 3, 2, (), SWAPPED, ("sees", 1, (0, 0, 0), (0, 0, 0)), ("sees", 0) + pair)
        self.check(False, 3, 2, (), SWAPPED, ("sees", 2) + pair, ("sees", -1) + pair, ("sees", True) + pair)
        self.check(False, 3, 2, (), PLUS, ("sees", 1) + pair)
        self.check(False, 3, 1, (), still(3, 1), ("sees", 0, (0, 0, 0), (0, 0, 1)), ("sees", 1, NOUGHTS, NOUGHTS))

    def test_odd_level(self):
        for n in range(3, 9):
            noughts = (0,) * n
            table = table_by_moves(n, 1, {(0, noughts): turned_columns(n, [2, 5])})
            self.check(n > 3, n, 1, ("sums", "all"), table, ("odd", 0, noughts))
            self.check(False, n, 1, (), table, ("odd", 1, noughts), ("odd", -1, noughts), ("odd", 0, (1,) + noughts[1:]))
            table = table_by_moves(n, 1, {(0, noughts): turned_columns(n, [2, 5, 0])})
            self.check(False, n, 1, (), table, ("odd", 0, noughts))

    def test_odd_behind_one_low_part(self):
        for low in all_states(4, 1)[::3]:
            moves = {(k, part): tuple(range(16)) for k in range(2) for part in all_states(4, k)}
            moves[1, low] = turned_columns(4, [9, 4])
            table = table_by_moves(4, 2, moves)
            for part in all_states(4, 1):
                self.check(part == low, 4, 2, ("sums", "all"), table, ("odd", 1, part))
            self.check(False, 4, 2, (), table, ("odd", 0, (0, 0, 0, 0)))

    def test_odd_of_tables_that_are_not_triangular(self):
        # Odd at level 0 as far as noughts above tell, but states part at level 1.
        table = exchanged(still(4, 2), 0, 1)
        self.check(True, 4, 2, ("sums", "all"), table, ("sees", 1, (0, 0, 0, 0), (0, 0, 0, 2)))
        self.check(False, 4, 2, (), table, ("odd", 0, (0, 0, 0, 0)), ("odd", 1, (0, 0, 0, 0)))
        # Triangular up to 0, but not up to 1, somewhat beyond MAX_BITS: three levels.
        three = with_cycle(4, 3, still(4, 3), [(1, 0, 0, 0), (3, 0, 0, 0)])
        self.check(False, 4, 3, (), three, ("odd", 0, (0, 0, 0, 0)), ("odd", 1, (1, 0, 0, 0)), ("odd", 2, (1, 0, 0, 0)))

    def test_unlike(self):
        self.check(True, 3, 2, ("sums", "all"), TOP, ("unlike", 1, NOUGHTS, 0, NOUGHTS), ("unlike", 0, NOUGHTS, 1, NOUGHTS))
        for low in all_states(3, 1)[1:]:
            self.check(True, 3, 2, ("sums", "all"), TOP, ("unlike", 1, low, 1, NOUGHTS), ("unlike", 1, NOUGHTS, 1, low))
            self.check(False, 3, 2, (), TOP, ("unlike", 1, low, 0, NOUGHTS), ("unlike", 0, NOUGHTS, 1, low))
            self.check(False, 3, 2, (), BOTH, ("unlike", 1, low, 0, NOUGHTS), ("unlike", 1, low, 1, NOUGHTS))
        self.check(False, 3, 2, (), TOP, ("unlike", 1, NOUGHTS, 1, NOUGHTS), ("unlike", 1, NOUGHTS, 2, NOUGHTS))
        self.check(False, 3, 2, (), TOP, ("unlike", 1, NOUGHTS, 0, (1, 0, 0)), ("unlike", 1, (2, 0, 0), 0, NOUGHTS))
        # With four words no two signs are asked to be alike.
        table = exchanged(still(4, 2), 0, 2)
        noughts = (0, 0, 0, 0)
        self.check(False, 4, 2, (), table, ("unlike", 1, noughts, 0, noughts), ("unlike", 0, noughts, 1, noughts))
        self.check(True, 4, 2, ("sums", "all"), table, ("odd", 1, noughts))

    def test_unlike_up_to_the_greater_level(self):
        # Somewhat beyond MAX_BITS: the columns 1 and 2 of level 0 change places, so that the table is triangular up
        # to it; at level 1 it is not: three states of one low part at 2 part.
        moves = {(k, low): tuple(range(8)) for k in range(3) for low in all_states(3, k)}
        odd_low = table_by_moves(3, 3, {**moves, (0, NOUGHTS): turned_columns(3, [1, 2])})
        papers = [("unlike", 0, NOUGHTS, 1, NOUGHTS), ("unlike", 1, NOUGHTS, 0, NOUGHTS), ("unlike", 1, NOUGHTS, 0, NOUGHTS)]
        papers += [("unlike", 0, NOUGHTS, 2, NOUGHTS), ("unlike", 2, (1, 0, 0), 0, NOUGHTS)]
        self.check(True, 3, 3, ("sums", "all"), odd_low, *papers)
        parted = with_cycle(3, 3, odd_low, [(4, 0, 0), (2, 0, 0)])
        self.check(True, 3, 3, ("sums", "all"), parted, ("sees", 2, (4, 0, 0), (0, 0, 0)))
        self.check(False, 3, 3, (), parted, *papers)
        # At level 2 alone something is odd: it is triangular, and the signs at 0 and 1 are alike.
        odd_high = table_by_moves(3, 3, {**moves, (2, (3, 1, 0)): turned_columns(3, [1, 2])})
        self.check(False, 3, 3, (), odd_high, *papers)
        self.check(True, 3, 3, ("sums", "all"), odd_high, ("unlike", 2, (3, 1, 0), 0, NOUGHTS))

    def test_doubles(self):
        self.check(True, 3, 2, ("sums",), ONE, ("doubles", NOUGHTS), ("doubles", (2, 2, 0)))
        self.check(False, 3, 2, (), PLUS, *[("doubles", state) for state in all_states(3, 2)])
        # Three doubles are turned about behind the column 0.
        table = with_cycle(3, 2, STILL, [(2, 0, 0), (0, 2, 0), (0, 0, 2)])
        for state in all_states(3, 2):
            moves = sum(word % 2 for word in state) == 1
            self.check(moves, 3, 2, ("sums",), table, ("doubles", state))
        self.check(False, 3, 2, (), ONE, ("doubles", (0, 0, 4)), ("doubles", (0, 0)), ("doubles", [0, 0, 0]))
        self.check(True, 3, 1, ("sums",), deed_table(3, 1, ("one", 0)), ("doubles", NOUGHTS), ("doubles", (1, 1, 0)))

    def test_columns(self):
        state, noughts = (1, 1, 0), (0, 0, 0)
        self.check(True, 3, 2, ("bits",), PLUS, ("columns", 1, state, 0, noughts), ("columns", 0, noughts, 1, state))
        # One state at two levels, and two states at one level.
        self.check(True, 3, 2, ("bits",), PLUS, ("columns", 0, (3, 3, 0), 1, (3, 3, 0)), ("columns", 1, (3, 3, 0), 0, (3, 3, 0)))
        self.check(True, 3, 2, ("bits",), PLUS, ("columns", 1, (3, 3, 0), 1, (2, 2, 0)))
        self.check(False, 3, 2, (), PLUS, ("columns", 1, (3, 3, 0), 1, (3, 3, 0)), ("columns", 0, (3, 3, 0), 0, (1, 3, 0)))
        # Unlike columns that go to unlike ones, to one, and the same ones that go alike.
        self.check(False, 3, 2, (), PLUS, ("columns", 0, (1, 1, 0), 0, (1, 0, 0)), ("columns", 1, (1, 1, 0), 1, (2, 0, 0)))
        self.check(False, 3, 2, (), BOTH, *[
            ("columns", k, x, m, y) for k in range(2) for m in range(2) for x in all_states(3, 2)[::7] for y in all_states(3, 2)[::5]
        ])
        self.check(False, 3, 2, (), PLUS, ("columns", 2, state, 0, noughts), ("columns", 1, state, -1, noughts))

    def test_nought(self):
        self.check(True, 3, 2, ("bits",), PLUS, ("nought", 1, (1, 1, 0)), ("nought", 1, (1, 1, 1)))
        self.check(False, 3, 2, (), PLUS, ("nought", 0, (1, 1, 0)), ("nought", 1, (1, 2, 0)), ("nought", 2, (1, 1, 0)))
        # A column other than 0 that goes to 0 makes no such paper.
        self.check(False, 3, 2, (), SWAPPED, ("nought", 0, (1, 0, 0)))
        self.check(True, 3, 2, ("bits",), SWAPPED, ("nought", 0, NOUGHTS))

    def test_odd_columns(self):
        for n, w in SIZES:
            spots = [(k, low) for k in range(w) for low in all_states(n, k)]
            draw = random.Random(f"odd columns {n} {w}")
            for sign in (0, 1):
                alike = drawn_columns(draw, n, sign, True)
                table = table_by_moves(n, w, {spot: alike for spot in spots})
                self.check(sign == 1 and n > 3, n, w, ("bits",), table, ("odd",))
                self.check(False, n, w, (), table, ("odd", ()), ("odd", None), ["odd"], ("Odd",))
        odd = turned_columns(4, [1, 2])
        # The columns of level 1 alone go oddly, or 0 goes elsewhere: there are papers of the other two sorts.
        for low, high in ((odd, tuple(range(16))), (tuple(range(16)), odd)):
            table = table_by_moves(4, 2, {(k, part): high if k else low for k in range(2) for part in all_states(4, k)})
            self.check(False, 4, 2, (), table, ("odd",))
        table = table_by_moves(4, 2, {(k, part): turned_columns(4, [0, 2]) for k in range(2) for part in all_states(4, k)})
        self.check(False, 4, 2, (), table, ("odd",))
        self.check(True, 4, 2, ("bits",), table, ("nought", 0, (0, 0, 0, 0)), ("nought", 1, (1, 1, 1, 1)))


class AllPapersTest(PapersCase):
    """Values are held against all papers, each written out from the document's words."""

    def check_all(self, n, w, language, table, values):
        papers = all_papers(n, w, language, table)
        held = 0
        for value in values:
            expected = repr(value) in papers
            self.assertEqual(self.holds(n, w, language, table, value), expected, (n, w, language, value))
            held += expected
        return held

    def candidates(self, n, w):
        """What looks like a paper: all with few states, levels and low parts."""
        states = all_states(n, w)[::max(1, 2 ** (n * w) // 12)] + [(2 ** w - 1,) * n]
        levels = range(-1, w + 1)
        places = [(k, low) for k in range(w) for low in all_states(n, k)] + [(w, (0,) * n)]
        found = [("sees", k, x, y) for k in levels for x in states for y in states]
        found += [("doubles", x) for x in all_states(n, w)] + [("odd",)] + [("odd",) + place for place in places]
        found += [("unlike",) + one + other for one in places[:20] for other in places[:20]]
        found += [("nought", k, x) for k in levels for x in all_states(n, w)]
        return found + [("columns", k, x, m, y) for k in levels for x in states for m in levels for y in states]

    def test_candidates(self):
        for n, w, many in ((3, 1, 8), (4, 1, 6), (6, 1, 2), (3, 2, 14)):
            values = self.candidates(n, w)
            for table in some_tables(n, w, many):
                for language in LANGUAGES:
                    self.check_all(n, w, language, table, values)

    def test_changed_papers(self):
        met = set()
        for n, w, many in ((3, 1, 5), (4, 1, 5), (3, 2, 12)):
            for table in some_tables(n, w, many):
                for language in LANGUAGES:
                    papers = sorted(all_papers(n, w, language, table))
                    met |= {(language, paper[2:5]) for paper in papers}
                    papers = [ast.literal_eval(paper) for paper in papers]
                    values = spellings(papers, 3) if papers else []
                    self.assertTrue(self.check_all(n, w, language, table, values) or not papers)
        kinds = {"bits": ("col", "nou", "odd"), "sums": ("see", "dou", "odd", "unl"), "all": ("see", "odd", "unl")}
        self.assertEqual(met, {(language, kind) for language in kinds for kind in kinds[language]})

    def test_a_paper_of_all_is_one_of_sums(self):
        for n, w in ((3, 1), (4, 1), (3, 2), (4, 2)):
            for table in some_tables(n, w, 4):
                for paper in sorted(all_papers(n, w, "all", table))[::50]:
                    self.assertTrue(self.holds(n, w, "sums", table, ast.literal_eval(paper)), paper)

    def test_no_paper_of_what_programs_do(self):
        for n, w in ((3, 1), (4, 1), (3, 2)):
            draw = random.Random(f"no paper {n} {w}")
            values = self.candidates(n, w)
            for at, language in enumerate(LANGUAGES):
                one, other = (table_by_steps(n, w, drawn_row(draw, n, language, many)) for many in (2, 9))
                for other_language in LANGUAGES[at:]:
                    for value in values:
                        self.assertFalse(self.holds(n, w, other_language, both(one, other), value))


class AnyValueTest(PapersCase):
    def test_any_values(self):
        tables = [(3, 2, table) for table in (STILL, PLUS, ONE, SWAPPED, TOP)]
        tables += [(4, 1, (0, 2, 1) + still(4, 1)[3:]), (4, 2, exchanged(still(4, 2), 0, 2))]
        for n, w, table in tables:
            for value in any_values():
                self.check(False, n, w, (), table, value)

    def test_what_only_looks_like_a_paper(self):
        papers = [("sees", 1, (0, 0, 0), (2, 0, 0)), ("columns", 0, (0, 0, 0), 0, (2, 0, 0)), ("nought", 0, (0, 0, 0))]
        for paper, languages in zip(papers, (("sums", "all"), ("bits",), ("bits",))):
            self.check(True, 3, 2, languages, SWAPPED, paper)
            self.check(False, 3, 2, (), SWAPPED, list(paper), paper + (0,), paper[:-1], (paper,), paper[1:], [paper])
            self.check(False, 3, 2, (), SWAPPED, dict(enumerate(paper)), repr(paper), ("SEES",) + paper[1:])
            for at, item in enumerate(paper):
                if not isinstance(item, tuple):
                    continue
                for wrong in (list(item), item[:2], item + (0,), (4, 0, 0), (-1, 0, 0), (False, 0, 0), ("0", 0, 0), None, 0):
                    self.check(False, 3, 2, (), SWAPPED, paper[:at] + (wrong,) + paper[at + 1:])

    def test_true_is_not_one(self):
        low = (1, 0, 0)
        table = table_by_moves(3, 2, {
            (k, part): turned_columns(3, [1, 2] if part == low else [1]) for k in range(2) for part in all_states(3, k)
        })
        paper = ("unlike", 1, low, 0, NOUGHTS)
        self.check(True, 3, 2, ("sums", "all"), table, paper)
        wrongs = [("unlike", True, low, 0, NOUGHTS), ("unlike", 1, (True, 0, 0), 0, NOUGHTS), ("unlike", 1, low, False, NOUGHTS)]
        wrongs += [("unlike", 1, low, 0, (0, False, 0)), ("unlike", 1, (1, 0, False), 0, NOUGHTS)]
        self.check(False, 3, 2, (), table, *wrongs)
        self.check(False, 3, 2, (), ONE, ("doubles", (0, False, 0)), ("doubles", (False,) * 3), ("doubles", (True, 0, 0)))

    def test_values_stay_and_calls_are_equal(self):
        for table in (SWAPPED, TOP, ONE, PLUS):
            for value in any_values() + spellings([("unlike", 1, NOUGHTS, 0, NOUGHTS)], 1):
                before = repr(value)
                for language in LANGUAGES:
                    found = paper_holds(3, 2, language, table, value)
                    again = paper_holds(n=3, w=2, language=language, table=tuple(list(table)), value=copy.deepcopy(value))
                    self.assertEqual((found, repr(value)), (again, before))

    def test_states_are_numbered_as_told(self):
        # Where a table leads a state is looked up by its number: the last word counts ones.
        self.assertEqual(number_by_words(2, (1, 0, 0)), 16)
        table = exchanged(STILL, 1, 2)
        self.check(True, 3, 2, ("sums", "all"), table, ("sees", 1, (0, 0, 1), (0, 0, 3)), ("sees", 1, (0, 0, 2), (0, 0, 0)))
        self.check(False, 3, 2, (), table, ("sees", 1, (1, 0, 0), (3, 0, 0)), ("sees", 1, (2, 0, 0), (0, 2, 0)))


if __name__ == "__main__":
    unittest.main()

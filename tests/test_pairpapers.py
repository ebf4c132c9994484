"""Pairs of states, what they tell, and papers that no program leads them [F1], [F2], [F3], [F6]."""

import ast
import copy
import itertools
import random
import unittest

from homewords.columns import state_of
from homewords.pairpapers import pair_holds, pair_paper
from tests.crafted import LANGUAGES, turned_columns
from tests.oddities import any_values, spellings
from tests.paired import (
    drawn_firsts, image_by, led_pairs, pair_papers, spoilt_pairs, what_is_told, with_second, written_papers,
)
from tests.samples import all_states, programs

WIDE = ((3, 1), (4, 1), (5, 1), (8, 1), (3, 2), (4, 2), (3, 3), (5, 3), (8, 3), (3, 7), (4, 64), (3, 64), (8, 64))


def column_pairs(n, goings, low=()):
    """Pairs of which each first has the columns low, and one more that goes to another one."""
    return tuple((state_of(n, low + (v,)), state_of(n, low + (goings[v],))) for v in goings)


class PairsCase(unittest.TestCase):
    def holds(self, n, w, language, pairs, value):
        found = pair_holds(n, w, language, pairs, value)
        self.assertIs(found.__class__, bool)
        return found

    def check(self, expected, n, w, languages, pairs, *values):
        """In the told languages the values are papers of the pairs, in the others they are none."""
        for language in LANGUAGES:
            for value in values:
                found = self.holds(n, w, language, pairs, value)
                self.assertEqual(found, expected and language in languages, (language, value, pairs))

    def check_paper(self, n, w, language, pairs):
        """There is a paper just where the document tells one, and it holds; returns its kind."""
        paper = pair_paper(n, w, language, pairs)
        papers = written_papers(n, w, language, pairs)
        self.assertEqual(paper is None, not papers, (n, w, language, pairs, paper))
        if paper is None:
            return None
        self.assertIs(paper.__class__, tuple)
        self.assertIn(repr(paper), papers)
        self.assertTrue(self.holds(n, w, language, pairs, paper))
        return paper[0]


class LedTest(PairsCase):
    def test_pairs_that_programs_lead(self):
        for n, w in WIDE:
            draw = random.Random(f"led {n} {w}")
            for at, language in enumerate(LANGUAGES):
                for many in (0, 1, 2, 12, 40):
                    pairs, _ = led_pairs(draw, n, w, language, many)
                    for other in LANGUAGES[at:]:
                        self.assertIsNone(pair_paper(n, w, other, pairs), (n, w, other, pairs))

    def test_drawn_programs(self):
        for n in (3, 4, 6):
            draw = random.Random(f"drawn programs {n}")
            for program in programs(n, 25):
                w = draw.choice((1, 2, 5, 64))
                pairs = tuple((first, image_by(w, program, first)) for first in drawn_firsts(draw, n, w, 12))
                self.assertIsNone(pair_paper(n, w, "all", pairs))

    def test_all_states(self):
        for n, w in ((3, 1), (4, 1), (8, 1), (3, 2), (4, 2)):
            draw = random.Random(f"all states {n} {w}")
            for at, language in enumerate(LANGUAGES):
                pairs, _ = led_pairs(draw, n, w, language, 2 ** (n * w), 30)
                self.assertEqual(len(pairs), 2 ** (n * w))
                for other in LANGUAGES[at:]:
                    self.assertIsNone(pair_paper(n, w, other, pairs))

    def test_three_hundred_pairs(self):
        for n, w in ((3, 64), (8, 64), (3, 4), (5, 2)):
            draw = random.Random(f"300 of {n} {w}")
            for at, language in enumerate(LANGUAGES):
                pairs, _ = led_pairs(draw, n, w, language, 300)
                self.assertEqual(len(pairs), 300)
                for other in LANGUAGES[at:]:
                    self.assertIsNone(pair_paper(n, w, other, pairs))
                # Two firsts never go to one second.
                spoilt = with_second(pairs, 299, pairs[draw.randrange(299)][1])
                for other in LANGUAGES:
                    paper = pair_paper(n, w, other, spoilt)
                    self.assertTrue(self.holds(n, w, other, spoilt, paper), (n, w, other, paper))

    def test_no_pairs_and_one(self):
        for n, w in WIDE:
            self.check(False, n, w, (), (), ("agree", 0, 0), ("depth", 0), ("nought", 0, 0), ("odd",), ("columns", 0, 0, 0, 0))
            for language in LANGUAGES:
                self.assertIsNone(pair_paper(n, w, language, ()))
                noughts = (0,) * n
                self.assertIsNone(pair_paper(n, w, language, ((noughts, noughts),)))
                ones = (2 ** w - 1,) * n
                self.assertIsNone(pair_paper(n, w, language, ((ones, ones),)))
                expected = {"bits": "nought", "sums": "depth", "all": None}[language]
                for pairs in (((noughts, ones),), ((ones, noughts),)):
                    paper = pair_paper(n, w, language, pairs)
                    self.assertEqual(paper and paper[0], expected)


class SpoiltTest(PairsCase):
    def test_spoilt_pairs(self):
        met = set()
        for n, w in ((3, 1), (4, 1), (5, 1), (3, 2), (4, 2), (3, 3), (3, 5), (6, 2), (8, 64), (3, 64)):
            draw = random.Random(f"spoilt pairs {n} {w}")
            for language in LANGUAGES:
                for many in (1, 2, 4, 7, 12):
                    pairs, _ = led_pairs(draw, n, w, language, many if w < 64 else 3)
                    for spoilt in spoilt_pairs(draw, n, w, pairs):
                        for other in LANGUAGES:
                            met.add((other, self.check_paper(n, w, other, spoilt)))
        kinds = {"bits": ("nought", "columns", None), "sums": ("depth", "agree", None), "all": ("agree", None)}
        expected = {(language, kind) for language in kinds for kind in kinds[language]}
        self.assertLessEqual(expected, met)

    def test_nearly_all_states(self):
        # Many signs are told; two seconds that differ at the highest level alone make a level odd.
        met = set()
        for n, w in ((3, 1), (4, 1), (3, 2), (5, 1)):
            draw = random.Random(f"nearly all {n} {w}")
            for language in LANGUAGES:
                for left_out in (0, 1, 2, 3):
                    many = 2 ** (n * w) - left_out
                    pairs, _ = led_pairs(draw, n, w, language, many)
                    p = draw.randrange(many)
                    alike = [q for q in range(many) if tops_alone(w, pairs[p][1], pairs[q][1]) and q != p]
                    q = draw.choice(alike)
                    spoilt = with_second(with_second(pairs, p, pairs[q][1]), q, pairs[p][1])
                    for other in LANGUAGES:
                        met.add((n > 3, other, self.check_paper(n, w, other, spoilt)))
        for other in ("sums", "all"):
            self.assertIn((True, other, "odd"), met)
            self.assertIn((False, other, "unlike"), met)
        self.assertIn((True, "bits", "odd"), met)

    def test_two_of_three_words_of_one_bit(self):
        # Each first and second once.
        states = all_states(3, 1)
        for first, second, other, image in itertools.product(states[:3], states, states[5:7], states):
            for language in LANGUAGES:
                self.check_paper(3, 1, language, ((first, second), (other, image)))


def tops_alone(w, one, other):
    return all((word ^ against) % 2 ** (w - 1) == 0 for word, against in zip(one, other))


class EachKindTest(PairsCase):
    def test_agree(self):
        pairs = (((1, 2, 3), (1, 0, 0)), ((5, 6, 7), (5, 4, 4)), ((1, 2, 7), (1, 2, 0)))
        # All firsts are alike below two levels, the seconds of 0 and 2 below one.
        self.check(True, 3, 3, ("sums", "all"), pairs, ("agree", 0, 2), ("agree", 1, 2))
        self.check(False, 3, 3, (), pairs, ("agree", 0, 1), ("agree", 2, 0), ("agree", 1, 1), ("agree", 2, 1))
        self.check(False, 3, 3, (), pairs, ("agree", 0, 3), ("agree", -1, 2), ("agree", False, 2), ("agree", 0, 2, 0))
        # The seconds are one state, or go together further than the firsts.
        same = (((1, 2, 3), (1, 0, 0)), ((5, 6, 7), (1, 0, 0)), ((1, 0, 0), (5, 0, 0)))
        self.check(True, 3, 3, ("sums", "all"), same, ("agree", 0, 1), ("agree", 1, 2), ("agree", 0, 2))

    def test_agree_of_sums_is_made_less(self):
        # (2, 0, 0) is (1, 0, 0) doubled, and so its second is to be (0, 1, 0) doubled.
        one = ((1, 0, 0), (0, 1, 0))
        for second in all_states(3, 2):
            pairs = (one, ((2, 0, 0), second))
            self.check(second in ((2, 0, 0), (0, 0, 2), (2, 2, 0), (2, 0, 2), (0, 2, 2), (2, 2, 2)), 3, 2, ("sums",),
                       pairs, *([("agree", 0, 1)] if sum(word % 2 for word in second) == 0 else []))
            paper = pair_paper(3, 2, "sums", pairs)
            self.assertEqual(paper is None, second == (0, 2, 0), second)

    def test_levels_beyond_the_greater_depth_are_not_looked_at(self):
        # Of (2, 0, 0) only one level is left, at which (1, 2, 0) goes as it does.
        pairs = (((1, 2, 0), (1, 0, 0)), ((2, 0, 0), (2, 0, 0)))
        self.check(False, 3, 2, (), pairs, ("agree", 0, 1))
        self.assertIsNone(pair_paper(3, 2, "sums", pairs))
        self.check(True, 3, 2, ("sums",), (pairs[0], ((2, 0, 0), (0, 2, 0))), ("agree", 0, 1))
        # With three levels two are looked at.
        pairs = (((1, 2, 4), (1, 0, 0)), ((2, 0, 0), (2, 0, 0)), ((2, 4, 0), (2, 0, 0)))
        self.check(True, 3, 3, ("sums",), pairs, ("agree", 0, 1))
        self.check(True, 3, 3, ("sums", "all"), pairs, ("agree", 1, 2))
        self.check(False, 3, 3, (), pairs, ("agree", 0, 2))
        # Noughts have no level left.
        pairs = (((0, 0, 0), (0, 0, 0)), ((1, 1, 1), (1, 0, 0)), ((4, 4, 4), (0, 4, 0)))
        self.check(False, 3, 3, (), pairs, ("agree", 0, 1), ("agree", 0, 2))
        self.check(True, 3, 3, ("sums",), pairs, ("agree", 1, 2))

    def test_agree_of_sums_asks_for_depths(self):
        for pairs in (
            (((2, 0, 0), (1, 0, 0)), ((1, 0, 0), (0, 1, 0))), (((1, 0, 0), (2, 0, 0)), ((2, 0, 0), (0, 2, 0))),
            (((1, 0, 0), (0, 1, 0)), ((0, 0, 0), (0, 0, 1))),
        ):
            self.assertFalse(self.holds(3, 2, "sums", pairs, ("agree", 0, 1)))
            self.assertEqual(pair_paper(3, 2, "sums", pairs)[0], "depth")

    def test_depth(self):
        pairs = (((2, 0, 0), (1, 0, 0)), ((0, 0, 0), (0, 0, 2)), ((2, 2, 0), (0, 0, 0)), ((1, 0, 0), (3, 2, 1)), ((0, 2, 0), (2, 2, 2)))
        self.check(True, 3, 2, ("sums",), pairs, ("depth", 0), ("depth", 1), ("depth", 2))
        self.check(False, 3, 2, (), pairs, ("depth", 3), ("depth", 4), ("depth", 5), ("depth", -1), ("depth", True), ("depth", False))
        wide = (((2 ** 63, 0, 0), (2 ** 62, 0, 0)), ((2 ** 63, 0, 0), (0, 0, 2 ** 63)))
        self.check(True, 3, 64, ("sums",), wide[:1], ("depth", 0))
        self.check(False, 3, 64, (), wide[1:], ("depth", 0))

    def test_nought(self):
        pairs = (((2, 0, 0), (1, 0, 0)), ((1, 0, 2), (0, 3, 0)), ((0, 0, 0), (0, 0, 0)))
        self.check(True, 3, 2, ("bits",), pairs, ("nought", 0, 0), ("nought", 0, 1))
        self.check(False, 3, 2, (), pairs, ("nought", 1, 0), ("nought", 1, 1), ("nought", 2, 0), ("nought", 2, 1))
        self.check(False, 3, 2, (), pairs, ("nought", 0, 2), ("nought", 3, 0), ("nought", -1, 0), ("nought", False, 0), ("nought", 0, True))

    def test_columns(self):
        pairs = (((3, 0, 0), (0, 1, 2)), ((1, 2, 0), (0, 2, 1)), ((0, 3, 0), (3, 1, 0)))
        # Columns: 1 1 to 2 4; 1 2 to 4 2; 2 2 to 3 1.
        columns = (((0, 0, 1, 2), (0, 1, 1, 4)), ((1, 0, 1, 4), (1, 1, 2, 2)), ((2, 0, 2, 3), (2, 1, 2, 1)))
        spots = [spot for row in columns for spot in row]
        for p, k, start, end in spots:
            for q, m, other, image in spots:
                expected = (start == other) != (end == image)
                self.check(expected, 3, 2, ("bits",), pairs, ("columns", p, k, q, m))
        self.check(True, 3, 2, ("bits",), pairs, ("columns", 0, 0, 0, 1), ("columns", 0, 1, 0, 0), ("columns", 0, 0, 1, 1))
        self.check(False, 3, 2, (), pairs, ("columns", 0, 0, 0, 0), ("columns", 0, 0, 0, 2), ("columns", 0, 0, 3, 1))
        self.check(False, 3, 2, (), pairs, ("columns", False, 0, 0, 1), ("columns", 0, 0, 0, True), ("columns", 0, -1, 0, 1))

    def test_odd(self):
        noughts = (0, 0, 0, 0)
        exchanged = turned_columns(4, [3, 9])
        for left_out, held in ((0, True), (1, True), (2, False), (3, False)):
            for nought in (0, 1):
                goings = {v: exchanged[v] for v in list(range(16))[1 - nought:] if v not in (7, 8, 10)[:left_out]}
                pairs = column_pairs(4, goings)
                # By "all" 0 is one more column that may go elsewhere.
                self.check(held, 4, 1, ("bits",), pairs, ("odd",))
                self.assertEqual(self.holds(4, 1, "sums", pairs, ("odd", 0, noughts)), held)
                self.assertEqual(self.holds(4, 1, "all", pairs, ("odd", 0, noughts)), held and left_out + 1 - nought < 2)
                for language in LANGUAGES:
                    self.check_paper(4, 1, language, pairs)
                self.check(False, 4, 1, (), pairs, ("odd", 1, noughts), ("odd", 0, (1, 0, 0, 0)), ("odd", False, noughts))
        even = column_pairs(4, dict(enumerate(turned_columns(4, [3, 9, 5]))))
        self.check(False, 4, 1, (), even, ("odd",), ("odd", 0, noughts))

    def test_odd_behind_low_parts(self):
        for low in all_states(4, 1):
            exchanged = turned_columns(4, [0, 11])
            pairs = column_pairs(4, {v: exchanged[v] for v in range(16)}, (sum(bit << i for i, bit in enumerate(low)),))
            for other in all_states(4, 1):
                # Behind the column 0 "sums" are told nothing.
                languages = () if other != low else ("sums", "all") if any(low) else ("all",)
                self.check(bool(languages), 4, 2, languages, pairs, ("odd", 1, other))
            for left_out, held in ((1, True), (2, False)):
                self.assertEqual(self.holds(4, 2, "all", pairs[left_out:], ("odd", 1, low)), held)
                self.assertEqual(pair_paper(4, 2, "all", pairs[left_out:]) is None, not held)

    def test_odd_columns_of_several_levels(self):
        # Each level tells some columns, that go oddly together.
        moves = turned_columns(5, [1, 2])
        columns = list(range(1, 32))
        for left_out, held in ((0, True), (1, True), (2, False)):
            told = columns[left_out:] + [5] * (left_out + 1)
            pairs = tuple(
                (state_of(5, tuple(told[at:at + 8])), state_of(5, tuple(moves[v] for v in told[at:at + 8])))
                for at in range(0, 32, 8)
            )
            self.check(held, 5, 8, ("bits",), pairs, ("odd",))
            self.assertEqual(pair_paper(5, 8, "bits", pairs), ("odd",) if held else None)

    def test_odd_only_without_other_papers(self):
        noughts = (0, 0, 0, 0)
        exchanged = turned_columns(4, [3, 9])
        pairs = column_pairs(4, {v: exchanged[v] for v in range(1, 16)})
        self.check(True, 4, 1, ("bits",), pairs, ("odd",))
        for second in (exchanged[1] ^ 2, 0):
            spoilt = column_pairs(4, {**{v: exchanged[v] for v in range(1, 16)}, 1: second})
            self.check(False, 4, 1, (), spoilt, ("odd",), ("odd", 0, noughts))
        # Elsewhere two seconds go together, or one is no double.
        wide = tuple((state_of(4, (v, v)), state_of(4, (exchanged[v], 3))) for v in range(1, 16))
        self.check(True, 4, 2, ("sums", "all"), wide, ("odd", 0, noughts))
        for pair in (((2, 2, 2, 2), (1, 0, 0, 0)), ((1, 1, 1, 1), wide[14][1])):
            self.assertFalse(self.holds(4, 2, "sums", wide + (pair,), ("odd", 0, noughts)))
        self.assertTrue(self.holds(4, 2, "sums", wide + (((2, 0, 0, 0), (2, 0, 0, 0)),), ("odd", 0, noughts)))
        self.assertFalse(self.holds(4, 2, "all", wide + (((0, 2, 0, 0), (0, 1, 0, 0)),), ("odd", 0, noughts)))

    def test_three_words_have_no_odd_paper(self):
        for ring in ([3, 5], [3, 5, 6]):
            pairs = column_pairs(3, dict(enumerate(turned_columns(3, ring))))
            self.check(False, 3, 1, (), pairs, ("odd",), ("odd", 0, (0, 0, 0)))
            for language in LANGUAGES:
                self.assertIsNone(pair_paper(3, 1, language, pairs))

    def rows(self, low_ring, high_ring, column):
        """Pairs that tell level 0 and, behind the column, level 1."""
        low, high = turned_columns(3, low_ring), turned_columns(3, high_ring)
        pairs = [(state_of(3, (v, 0)), state_of(3, (low[v], 0))) for v in range(8) if v != column]
        return pairs + [(state_of(3, (column, v)), state_of(3, (low[column], high[v]))) for v in range(8)]

    def test_unlike(self):
        noughts = (0, 0, 0)
        for low_ring, high_ring in itertools.product(([1, 2], [1, 2, 4], [3]), repeat=2):
            for column in (1, 6):
                pairs = self.rows(low_ring, high_ring, column)
                low = state_of(3, (column,))
                held = len(low_ring) % 2 != len(high_ring) % 2
                for at, left_out in enumerate(([], pairs[1:2], pairs[8:9], pairs[8:10], pairs[1:2] + pairs[9:10])):
                    kept = tuple(pair for pair in pairs if pair not in left_out)
                    papers = [("unlike", 0, noughts, 1, low), ("unlike", 1, low, 0, noughts)]
                    self.check(held and at != 3, 3, 2, ("sums", "all"), kept, *papers)
                    for language in LANGUAGES:
                        self.check_paper(3, 2, language, kept)
                    self.check(False, 3, 2, (), kept, ("unlike", 1, low, 1, low), ("unlike", 1, noughts, 0, noughts))
                    self.check(False, 3, 2, (), kept, ("unlike", 0, noughts, 1, low[::-1] if low[::-1] != low else (1, 1, 1)))

    def test_unlike_behind_two_low_parts(self):
        one, other = turned_columns(3, [2, 7]), turned_columns(3, [2, 7, 3])
        for columns, languages in (((1, 2), ("sums", "all")), ((0, 2), ("all",)), ((5, 0), ("all",))):
            pairs = tuple(
                (state_of(3, (column, v)), state_of(3, (column, moves[v])))
                for column, moves in zip(columns, (one, other)) for v in range(8)
            )
            lows = [state_of(3, (column,)) for column in columns]
            self.check(True, 3, 2, languages, pairs, ("unlike", 1, lows[0], 1, lows[1]), ("unlike", 1, lows[1], 1, lows[0]))
            self.assertFalse(self.holds(3, 2, "all", pairs, ("unlike", 1, lows[0], 0, (0, 0, 0))))
            alike = pairs[:8] + tuple((first, state_of(3, (columns[1], one[v]))) for v, (first, _) in enumerate(pairs[8:]))
            self.check(False, 3, 2, (), alike, ("unlike", 1, lows[0], 1, lows[1]))
            self.assertIsNone(pair_paper(3, 2, "all", alike))

    def test_unlike_of_four_words_and_with_other_papers(self):
        pairs = tuple(self.rows([1, 2], [3], 1))
        papers = [("unlike", 0, (0, 0, 0), 1, (1, 0, 0)), ("unlike", 1, (1, 0, 0), 0, (0, 0, 0))]
        self.check(True, 3, 2, ("sums", "all"), pairs, *papers)
        self.check(False, 3, 2, (), pairs + (((2, 3, 3), (2, 2, 2)),), *papers)
        # With four words a sign is a paper by itself, and two are none.
        odd = turned_columns(4, [2, 9])
        both = tuple((state_of(4, (v, 0)), state_of(4, (v, 0))) for v in range(16) if v != 1)
        both += tuple((state_of(4, (1, v)), state_of(4, (1, odd[v]))) for v in range(16))
        noughts, low = (0, 0, 0, 0), (1, 0, 0, 0)
        self.check(False, 4, 2, (), both, ("unlike", 0, noughts, 1, low), ("unlike", 1, low, 0, noughts))
        self.check(True, 4, 2, ("sums", "all"), both, ("odd", 1, low))
        four = tuple(((x + (0,)), (y + (0,))) for x, y in pairs)
        self.check(False, 4, 2, (), four, ("unlike", 0, (0, 0, 0, 0), 1, (1, 0, 0, 0)), ("unlike", 1, (1, 0, 0, 0), 0, (0, 0, 0, 0)))

    def test_wide_words(self):
        # The same at level 63, behind a low part of 63 bits.
        low = tuple(5 * 2 ** k for k in (60, 30, 0))
        for n in (3, 4):
            start = low + (2 ** 62,) * (n - 3)
            moves = turned_columns(n, [1, 4])
            pairs = tuple(
                (tuple(word + (v >> i & 1) * 2 ** 63 for i, word in enumerate(start)),
                 tuple(word + (moves[v] >> i & 1) * 2 ** 63 for i, word in enumerate(start))) for v in range(2 ** n)
            )
            depth = 0
            paper = ("odd", 63 - depth, start)
            self.check(n == 4, n, 64, ("sums", "all"), pairs, paper)
            self.assertEqual(pair_paper(n, 64, "all", pairs), paper if n == 4 else None)


class AllPapersTest(PairsCase):
    def values(self, n, w, pairs):
        places = range(-1, len(pairs) + 1)
        levels = range(-1, w + 1)
        spots = [spot for spot in what_is_told(n, w, "all", pairs)] + [(0, (0,) * n), (w, (0,) * n)]
        found = [("agree", p, q) for p in places for q in places] + [("depth", p) for p in places]
        found += [("nought", p, k) for p in places for k in levels] + [("odd",)] + [("odd",) + spot for spot in spots]
        found += [("unlike",) + one + other for one in spots[:12] for other in spots[:12]]
        return found + [("columns", p, k, q, m) for p in places for k in levels for q in places for m in levels]

    def check_all(self, n, w, language, pairs, values):
        papers = written_papers(n, w, language, pairs)
        for value in values:
            expected = repr(value) in papers
            self.assertEqual(self.holds(n, w, language, pairs, value), expected, (n, w, language, value, pairs))

    def test_candidates_and_changed_papers(self):
        for n, w in ((3, 1), (4, 1), (3, 2), (3, 3), (5, 2)):
            draw = random.Random(f"candidates {n} {w}")
            for language in LANGUAGES:
                pairs, _ = led_pairs(draw, n, w, language, 7)
                for spoilt in [pairs] + spoilt_pairs(draw, n, w, pairs)[::2]:
                    for other in LANGUAGES:
                        self.check_all(n, w, other, spoilt, self.values(n, w, spoilt))
                        papers = sorted(written_papers(n, w, other, spoilt))
                        values = spellings([ast.literal_eval(paper) for paper in papers], 2) if papers else []
                        self.check_all(n, w, other, spoilt, values)

    def test_changed_papers_of_signs(self):
        exchanged = turned_columns(4, [3, 9])
        pairs = column_pairs(4, {v: exchanged[v] for v in range(16)})
        for language in LANGUAGES:
            papers = pair_papers(4, 1, language, pairs)
            self.assertEqual([paper[0] for paper in papers], ["odd"])
            self.check_all(4, 1, language, pairs, spellings(papers, 1))
        pairs = tuple(EachKindTest().rows([1, 2], [3], 1))
        for language in ("sums", "all"):
            papers = pair_papers(3, 2, language, pairs)
            self.assertEqual([paper[0] for paper in papers], ["unlike"] * 2)
            self.check_all(3, 2, language, pairs, spellings(papers, 2))

    def test_any_values(self):
        exchanged = turned_columns(4, [3, 9])
        groups = [(4, 1, column_pairs(4, {v: exchanged[v] for v in range(16)})), (3, 2, ()), (3, 2, EachKindTest().rows([1, 2], [3], 1))]
        groups.append((3, 64, (((2 ** 63, 0, 0), (0, 2 ** 63, 0)), ((1, 0, 0), (0, 0, 1)), ((1, 1, 1), (0, 0, 1)))))
        for n, w, pairs in groups:
            for value in any_values():
                self.check(False, n, w, (), tuple(pairs), value)

    def test_arguments_stay_and_calls_are_equal(self):
        draw = random.Random("equal pairs")
        for language in LANGUAGES:
            pairs, _ = led_pairs(draw, 3, 4, language, 9)
            for spoilt in [pairs] + spoilt_pairs(draw, 3, 4, pairs):
                before = repr(spoilt)
                for other in LANGUAGES:
                    paper = pair_paper(3, 4, other, spoilt)
                    kept = repr(paper)
                    self.assertEqual(pair_paper(pairs=copy.deepcopy(spoilt), language=other, w=4, n=3), paper)
                    held = pair_holds(n=3, w=4, language=other, pairs=spoilt, value=paper)
                    self.assertEqual((held, pair_holds(3, 4, other, copy.deepcopy(spoilt), copy.deepcopy(paper))), (paper is not None,) * 2)
                    self.assertEqual((repr(spoilt), repr(paper)), (before, kept))


if __name__ == "__main__":
    unittest.main()

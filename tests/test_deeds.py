"""Deeds done and undone [B1], [B2], [B6]."""

import random
import unittest

from homewords.columns import agree, column_of, columns_of, state_of
from homewords.deeds import done, undone
from tests.samples import COUNTS, WIDTHS, all_states, deed_by_bits, deeds, states


def each_deed():
    for n in COUNTS:
        for w in WIDTHS:
            # All pairs and threes of places stand in the deeds; a few states for each are enough.
            found = states(n, w, 2)
            for deed in deeds(n):
                for state in found:
                    yield n, w, deed, state


class DeedsTest(unittest.TestCase):
    def test_as_the_words_tell(self):
        for _, w, deed, state in each_deed():
            self.assertEqual(done(w, state, deed), deed_by_bits(w, state, deed))
            self.assertEqual(undone(w, state, deed), deed_by_bits(w, state, deed, -1))

    def test_each_leads_back_from_the_other(self):
        for _, w, deed, state in each_deed():
            self.assertEqual(undone(w, done(w, state, deed), deed), state)
            self.assertEqual(done(w, undone(w, state, deed), deed), state)

    def test_all_other_words_stay(self):
        for n, w, deed, state in each_deed():
            for found in (done(w, state, deed), undone(w, state, deed)):
                self.assertEqual(len(found), n)
                self.assertEqual(
                    found[:deed[1]] + found[deed[1] + 1:], state[:deed[1]] + state[deed[1] + 1:]
                )
                self.assertTrue(0 <= found[deed[1]] < 2 ** w)

    def test_carries_out_of_the_highest_bit_are_lost(self):
        for w in range(1, 65):
            top = 2 ** w - 1
            self.assertEqual(done(w, (top, 0, 0), ("one", 0)), (0, 0, 0))
            self.assertEqual(undone(w, (0, 0, 0), ("one", 0)), (top, 0, 0))
            self.assertEqual(done(w, (top, top, 0), ("add", 0, 1)), ((2 * top) % 2 ** w, top, 0))
            self.assertEqual(undone(w, (0, top, 0), ("add", 0, 1)), (1, top, 0))
            self.assertEqual(done(w, (1, 0, top), ("add", 0, 2)), (0, 0, top))

    def test_xor_and_and_undo_themselves(self):
        for _, w, deed, state in each_deed():
            if deed[0] in ("xor", "and"):
                self.assertEqual(done(w, state, deed), undone(w, state, deed))

    def test_bits_alone(self):
        self.assertEqual(done(4, (12, 10, 0), ("xor", 0, 1)), (6, 10, 0))
        self.assertEqual(done(4, (0, 12, 10), ("and", 0, 1, 2)), (8, 12, 10))
        self.assertEqual(done(4, (15, 12, 10), ("and", 0, 1, 2)), (7, 12, 10))
        self.assertEqual(done(4, (12, 15, 10), ("and", 1, 0, 2)), (12, 7, 10))

    def test_rows_are_undone_from_the_last_one_on(self):
        draw = random.Random("rows")
        for n in COUNTS:
            for w in WIDTHS:
                for start in states(n, w):
                    row = draw.choices(deeds(n), k=12)
                    state = start
                    for deed in row:
                        state = done(w, state, deed)
                    for deed in reversed(row):
                        state = undone(w, state, deed)
                    self.assertEqual(state, start)


class WhatHoldsTest(unittest.TestCase):
    def test_unlike_states_go_to_unlike_ones(self):
        for n, w in ((3, 2), (4, 1), (3, 1), (4, 2)):
            for deed in deeds(n):
                self.assertEqual(len({done(w, state, deed) for state in all_states(n, w)}), 2 ** (n * w))

    def test_agreement_stays(self):
        for n, w in ((3, 2), (4, 3), (3, 64)):
            found = states(n, w, 4)
            for deed in deeds(n):
                for one in found:
                    for other in found:
                        level = agree(w, one, other)
                        self.assertEqual(agree(w, done(w, one, deed), done(w, other, deed)), level)

    def test_noughts_and_doubles_without_one(self):
        for n, w, deed, state in each_deed():
            if deed[0] != "one":
                doubled = tuple(2 * word % 2 ** w for word in state)
                found = tuple(2 * word % 2 ** w for word in done(w, state, deed))
                self.assertEqual(done(w, doubled, deed), found)
                self.assertEqual(done(w, (0,) * n, deed), (0,) * n)

    def test_levels_by_themselves_without_sums(self):
        for n, w, deed, state in each_deed():
            if deed[0] in ("xor", "and"):
                alone = tuple(column_of(done(1, state_of(n, (column,)), deed), 0) for column in columns_of(w, state))
                self.assertEqual(columns_of(w, done(w, state, deed)), alone)


if __name__ == "__main__":
    unittest.main()

"""Columns, levels, low parts [A4], [A6] to [A8]."""

import random
import unittest

from homewords.columns import agree, column_of, columns_of, depth, halved, low_part, state_of
from tests.samples import COUNTS, WIDTHS, all_states, bit, states

LEVELS = range(65)


def each_state():
    for n in COUNTS:
        for w in WIDTHS:
            for state in states(n, w):
                yield n, w, state


def pairs_of_states():
    """Pairs of states: drawn ones, and for each level one that is alike just below it."""
    draw = random.Random("pairs")
    for n in COUNTS:
        for w in WIDTHS:
            for one in states(n, w):
                yield w, one, one
                yield w, one, draw.choice(states(n, w))
                for k in range(w):
                    yield w, one, turned(draw, one, w, k)


def turned(draw, state, w, k):
    """The state with a bit of level k turned, and any bits of the levels above."""
    place = draw.randrange(len(state))
    found = [word ^ draw.randrange(2 ** w) // 2 ** (k + 1) * 2 ** (k + 1) for word in state]
    found[place] = found[place] ^ 2 ** k
    return tuple(found)


class ColumnsTest(unittest.TestCase):
    def test_each_bit(self):
        for n, w, state in each_state():
            for k in LEVELS:
                column = column_of(state, k)
                self.assertEqual([bit(column, i) for i in range(n)], [bit(word, k) for word in state])
                self.assertTrue(0 <= column < 2 ** n)

    def test_noughts_beyond_the_words(self):
        for n in COUNTS:
            for w in (1, 2, 63):
                self.assertEqual([column_of((2 ** w - 1,) * n, k) for k in range(w, 65)], [0] * (65 - w))
        self.assertEqual(column_of((2 ** 64 - 1,) * 8, 64), 0)
        self.assertEqual(column_of((2 ** 64 - 1,) * 8, 63), 255)

    def test_columns_of_has_w_columns(self):
        for _, w, state in each_state():
            self.assertEqual(columns_of(w, state), tuple(column_of(state, k) for k in range(w)))

    def test_columns_of_noughts(self):
        for n in COUNTS:
            for w in WIDTHS:
                self.assertEqual(columns_of(w, (0,) * n), (0,) * w)
                self.assertEqual(state_of(n, (0,) * w), (0,) * n)

    def test_state_of_columns_of_is_the_state(self):
        for n, w, state in each_state():
            self.assertEqual(state_of(n, columns_of(w, state)), state)
        for n, w in ((3, 2), (4, 2), (8, 1)):
            for state in all_states(n, w):
                self.assertEqual(state_of(n, columns_of(w, state)), state)

    def test_columns_of_state_of_are_the_columns(self):
        draw = random.Random("columns")
        for n in COUNTS:
            for w in (1, 2, 3, 63, 64):
                drawn = tuple(draw.randrange(2 ** n) for _ in range(w))
                for columns in (drawn, (2 ** n - 1,) * w, (2 ** n - 1,) + (0,) * (w - 1), (0,) * (w - 1) + (1,)):
                    state = state_of(n, columns)
                    self.assertEqual(len(state), n)
                    self.assertEqual(columns_of(w, state), columns)


class LowPartTest(unittest.TestCase):
    def test_low_part_and_halved_make_the_state(self):
        for _, _, state in each_state():
            for k in LEVELS:
                low, high = low_part(state, k), halved(state, k)
                self.assertEqual(low, tuple(word % 2 ** k for word in state))
                self.assertEqual(high, tuple(word // 2 ** k for word in state))
                self.assertEqual(tuple(b * 2 ** k + a for a, b in zip(low, high)), state)

    def test_edges(self):
        for n, w, state in each_state():
            self.assertEqual((low_part(state, 0), halved(state, 0)), ((0,) * n, state))
            self.assertEqual((low_part(state, w), halved(state, w)), (state, (0,) * n))
            self.assertEqual((low_part(state, 64), halved(state, 64)), (state, (0,) * n))


class AgreeTest(unittest.TestCase):
    def test_greatest_level_below_which_they_are_alike(self):
        for w, one, other in pairs_of_states():
            found = agree(w, one, other)
            alike = [k for k in range(w + 1) if low_part(one, k) == low_part(other, k)]
            self.assertEqual(found, max(alike))
            self.assertEqual(alike, list(range(found + 1)))
            self.assertEqual(agree(w, other, one), found)

    def test_by_columns(self):
        for w, one, other in pairs_of_states():
            found = agree(w, one, other)
            ones, others = columns_of(w, one), columns_of(w, other)
            self.assertEqual(ones[:found], others[:found])
            self.assertTrue(found == w or ones[found] != others[found])

    def test_each_level_is_met(self):
        for n in COUNTS:
            for w in (1, 2, 63, 64):
                state = states(n, w)[-1]
                met = [agree(w, state, turned(random.Random(k), state, w, k)) for k in range(w)]
                self.assertEqual(met + [agree(w, state, state)], list(range(w + 1)))

    def test_a_part_of_the_words_is_no_agreement(self):
        self.assertEqual(agree(4, (5, 3, 8), (5, 3, 9)), 0)
        self.assertEqual(agree(4, (5, 3, 8), (5, 7, 12)), 2)
        self.assertEqual(agree(64, (0, 0, 0), (0, 0, 2 ** 63)), 63)


class DepthTest(unittest.TestCase):
    def test_least_level_with_a_column(self):
        for n, w, state in each_state():
            found = depth(w, state)
            self.assertEqual(found, min([k for k in range(w) if column_of(state, k)] + [w]))
            self.assertEqual(found, agree(w, state, (0,) * n))

    def test_noughts_below_and_the_rest_above(self):
        for _, w, state in each_state():
            found = depth(w, state)
            columns = columns_of(w, state)
            self.assertEqual(columns[:found], (0,) * found)
            if found < w:
                self.assertEqual(columns_of(w - found, halved(state, found)), columns[found:])

    def test_each_level_is_met(self):
        for n in COUNTS:
            for w in (1, 2, 63, 64):
                for place in range(n):
                    for k in range(w):
                        state = tuple(2 ** w - 2 ** k if i == place else 0 for i in range(n))
                        self.assertEqual(depth(w, state), k)
                self.assertEqual(depth(w, (0,) * n), w)


if __name__ == "__main__":
    unittest.main()

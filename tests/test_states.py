"""The numbers of states [A4], [A5]."""

import unittest

from homewords.states import all_states as numbered_states
from homewords.states import state_at, state_number
from tests.samples import COUNTS, SIZES, WIDTHS, all_states, number_by_words, states


class StateNumberTest(unittest.TestCase):
    def test_states_in_the_order_of_tuples(self):
        for n, w in ((3, 1), (3, 2), (4, 1), (4, 2), (5, 1), (8, 1), (3, 3)):
            numbers = [state_number(w, state) for state in sorted(all_states(n, w))]
            self.assertEqual(numbers, list(range(2 ** (n * w))))

    def test_last_word_counts_ones(self):
        for n in COUNTS:
            for w in WIDTHS:
                for state in states(n, w):
                    self.assertEqual(state_number(w, state), number_by_words(w, state))

    def test_least_and_greatest(self):
        for n in COUNTS:
            for w in range(1, 65):
                self.assertEqual(state_number(w, (0,) * n), 0)
                self.assertEqual(state_number(w, (2 ** w - 1,) * n), 2 ** (n * w) - 1)

    def test_states_from_their_numbers(self):
        for n in COUNTS:
            for w in WIDTHS:
                for state in states(n, w):
                    self.assertEqual(state_at(n, w, state_number(w, state)), state)
        for n, w in SIZES + ((3, 3), (3, 0), (8, 0)):
            self.assertEqual(numbered_states(n, w), sorted(all_states(n, w)))


if __name__ == "__main__":
    unittest.main()

"""Tables: those of deeds, of one behind another, and those that lead back [C1] to [C3], [C5]."""

import itertools
import unittest

from homewords.deeds import done, undone
from homewords.states import state_number
from homewords.tables import both, deed_table, still, undone_table
from tests.samples import SIZES, all_states, deed_by_bits, deeds, drawn_tables, number_by_words


def some_tables(n, w):
    """Drawn tables, with that of each kind of deed, and the one that leaves all states."""
    each = (("add", 0, 1), ("xor", 2, 0), ("and", 1, 0, 2), ("one", n - 1))
    return drawn_tables(n, w, 4) + [deed_table(n, w, deed) for deed in each] + [still(n, w)]


class TablesTest(unittest.TestCase):
    def test_sizes(self):
        pairs = [(n, w) for n in range(3, 9) for w in range(1, 65) if n * w <= 8]
        self.assertEqual(sorted(SIZES), pairs)

    def test_still_leads_each_state_to_itself(self):
        for n, w in SIZES:
            table = still(n, w)
            self.assertEqual(len(table), 2 ** (n * w))
            for state in all_states(n, w):
                number = state_number(w, state)
                self.assertEqual(table[number], number)

    def test_each_deed_on_all_places(self):
        for n, w in SIZES:
            found = all_states(n, w)
            for deed in deeds(n):
                table = deed_table(n, w, deed)
                self.assertEqual(len(table), 2 ** (n * w))
                self.assertEqual(
                    [table[state_number(w, state)] for state in found],
                    [state_number(w, done(w, state, deed)) for state in found], (n, w, deed),
                )

    def test_deeds_as_the_words_tell(self):
        for n, w in SIZES:
            for deed in deeds(n)[::5] + [("one", 0)]:
                expected = tuple(number_by_words(w, deed_by_bits(w, state, deed)) for state in all_states(n, w))
                self.assertEqual(deed_table(n, w, deed), expected)

    def test_tables_are_one_to_one_tuples_of_integers(self):
        for n, w in SIZES:
            one, other = some_tables(n, w)[:2]
            for table in (still(n, w), deed_table(n, w, ("add", 0, 1)), both(one, other), undone_table(one)):
                self.assertIs(table.__class__, tuple)
                self.assertEqual({number.__class__ for number in table}, {int})
                self.assertEqual(sorted(table), list(range(2 ** (n * w))))


class BothTest(unittest.TestCase):
    def test_first_one_first(self):
        for n, w in SIZES:
            found = some_tables(n, w)
            for one, other in itertools.product(found, repeat=2):
                table = both(one, other)
                for place in range(2 ** (n * w)):
                    self.assertEqual(table[place], other[one[place]])

    def test_two_deeds(self):
        for n, w in SIZES:
            first, second = ("add", 0, 1), ("and", 1, 0, 2)
            table = both(deed_table(n, w, first), deed_table(n, w, second))
            for state in all_states(n, w):
                end = done(w, done(w, state, first), second)
                self.assertEqual(table[state_number(w, state)], state_number(w, end))

    def test_three_whichever_two_are_put_together_first(self):
        for n, w in SIZES:
            for one, other, third in itertools.product(some_tables(n, w), repeat=3):
                self.assertEqual(both(both(one, other), third), both(one, both(other, third)))

    def test_still_changes_nothing(self):
        for n, w in SIZES:
            for table in some_tables(n, w):
                self.assertEqual((both(still(n, w), table), both(table, still(n, w))), (table, table))


class UndoneTest(unittest.TestCase):
    def test_leads_back_both_ways_about(self):
        for n, w in SIZES:
            for table in some_tables(n, w):
                back = undone_table(table)
                self.assertEqual([back[number] for number in table], list(still(n, w)))
                self.assertEqual([table[number] for number in back], list(still(n, w)))
                self.assertEqual(undone_table(back), table)

    def test_deeds_undone(self):
        for n, w in SIZES:
            for deed in deeds(n)[::3] + [("one", 1)]:
                back = undone_table(deed_table(n, w, deed))
                for state in all_states(n, w):
                    self.assertEqual(back[state_number(w, state)], state_number(w, undone(w, state, deed)))

    def test_both_undone_the_second_one_first(self):
        for n, w in SIZES:
            for one, other in itertools.product(some_tables(n, w), repeat=2):
                self.assertEqual(undone_table(both(one, other)), both(undone_table(other), undone_table(one)))


if __name__ == "__main__":
    unittest.main()

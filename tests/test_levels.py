"""Tables seen level by level: what they move, and by which signs [D1], [D2], [D6]."""

import itertools
import random
import unittest

from homewords.errors import Unfit, WordsError
from homewords.levels import level_signs, moved
from homewords.tables import both, deed_table, still, undone_table
from tests.samples import (
    SIZES, all_states, bit, column_by_bits, deeds, drawn_moves, drawn_tables, exchanged, number_by_words,
    table_by_moves, triangular_tables,
)

# With at most 8 bits there are two levels; a third one shows what differs between levels above.
TALL = SIZES + ((3, 3),)


def sign_by_pairs(moves):
    return len([1 for one, other in itertools.combinations(moves, 2) if one > other]) % 2


def row_by_hand(n, w, table, k, low):
    """What moved is to return, told from the document's words."""
    found = []
    for column in range(2 ** n):
        start = [word + bit(column, place) * 2 ** k for place, word in enumerate(low)]
        image = all_states(n, w)[table[number_by_words(w, start)]]
        found.append(column_by_bits(image, k))
    return tuple(found)


def apart_below(n, w, table, m):
    """Whether any two states that are alike below m have images that are not."""
    found = all_states(n, w)
    pairs = [([x % 2 ** m for x in found[p]], [x % 2 ** m for x in found[table[p]]]) for p in range(len(table))]
    return any(a == c and b != d for (a, b), (c, d) in itertools.combinations(pairs, 2))


class LevelsCase(unittest.TestCase):
    def check_refused(self, n, w, table, k):
        # moved is refused wherever the table fails, at the low part asked or elsewhere.
        for low in all_states(n, k)[:3] + all_states(n, k)[-2:]:
            with self.assertRaises(Unfit) as caught:
                moved(n, w, table, k, low)
            self.assertEqual(vars(caught.exception), {})
        with self.assertRaises(Unfit) as caught:
            level_signs(n, w, table, k)
        self.assertEqual(vars(caught.exception), {})
        self.assertIsInstance(caught.exception, WordsError)


class MovedTest(LevelsCase):
    def test_drawn_rearrangements(self):
        draw = random.Random("moved")
        for n, w in TALL:
            for _ in range(3):
                moves = drawn_moves(draw, n, w)
                table = table_by_moves(n, w, moves)
                for (k, low), row in moves.items():
                    self.assertEqual(moved(n, w, table, k, low), row)

    def test_rows_made_by_hand(self):
        for n, w in ((3, 1), (5, 1), (3, 2), (4, 2)):
            for table in triangular_tables(n, w, 2) + [deed_table(n, w, ("add", 2, 1)), still(n, w)]:
                for k in range(w):
                    for low in all_states(n, k):
                        row = moved(n, w, table, k, low)
                        self.assertEqual(row, row_by_hand(n, w, table, k, low))
                        self.assertEqual(sorted(row), list(range(2 ** n)))
                        self.assertEqual((row.__class__, {item.__class__ for item in row}), (tuple, {int}))

    def test_each_row_by_itself(self):
        draw = random.Random("rows")
        moves = drawn_moves(draw, 3, 2)
        for place, row in drawn_moves(draw, 3, 2).items():
            table = table_by_moves(3, 2, {**moves, place: row})
            for (k, low), kept in moves.items():
                self.assertEqual(moved(3, 2, table, k, low), row if (k, low) == place else kept)

    def test_still_moves_nothing(self):
        for n, w in TALL:
            for k in range(w):
                for low in all_states(n, k):
                    self.assertEqual(moved(n, w, still(n, w), k, low), tuple(range(2 ** n)))

    def test_one_level(self):
        # A state of one bit has its column at level 0, the words the other way about than in its number.
        for n in range(3, 9):
            for table in drawn_tables(n, 1, 3):
                expected = row_by_hand(n, 1, table, 0, (0,) * n)
                self.assertEqual(moved(n, 1, table, 0, (0,) * n), expected)
                self.assertEqual(level_signs(n, 1, table, 0), (sign_by_pairs(table),))

    def test_carries(self):
        plus = deed_table(4, 2, ("add", 3, 0))
        for low in all_states(4, 1):
            row = moved(4, 2, plus, 1, low)
            carry = 8 * low[0] * low[3]
            self.assertEqual(row, tuple(v ^ 8 * (v % 2) ^ carry for v in range(16)))
        one = deed_table(4, 2, ("one", 1))
        self.assertEqual(moved(4, 2, one, 0, (0, 0, 0, 0)), tuple(v ^ 2 for v in range(16)))
        for low in all_states(4, 1):
            self.assertEqual(moved(4, 2, one, 1, low), tuple(v ^ 2 * low[1] for v in range(16)))


class SignsTest(LevelsCase):
    def test_signs_of_moved_in_the_order_of_low_parts(self):
        for n, w in TALL:
            for table in triangular_tables(n, w, 3):
                for k in range(w):
                    lows = sorted(all_states(n, k))
                    signs = level_signs(n, w, table, k)
                    self.assertEqual((signs.__class__, len(signs)), (tuple, 2 ** (n * k)))
                    self.assertEqual(signs, tuple(sign_by_pairs(moved(n, w, table, k, low)) for low in lows))
                    self.assertEqual({sign.__class__ for sign in signs}, {int})

    def test_one_exchange_behind_one_low_part(self):
        for place, low in enumerate(all_states(3, 1)):
            moves = {(k, part): tuple(range(8)) for k in (0, 1) for part in all_states(3, k)}
            moves[1, low] = (0, 1, 5, 3, 4, 2, 6, 7)
            table = table_by_moves(3, 2, moves)
            self.assertEqual(level_signs(3, 2, table, 0), (0,))
            self.assertEqual(level_signs(3, 2, table, 1), tuple(int(at == place) for at in range(8)))
            moves[1, low] = (0, 1, 5, 2, 4, 3, 6, 7)
            self.assertEqual(level_signs(3, 2, table_by_moves(3, 2, moves), 1), (0,) * 8)
            moves[0, (0, 0, 0)] = (1, 2, 3, 4, 5, 6, 7, 0)
            self.assertEqual(level_signs(3, 2, table_by_moves(3, 2, moves), 0), (1,))
            self.assertEqual(level_signs(3, 2, table_by_moves(3, 2, moves), 1), (0,) * 8)

    def test_both(self):
        for n, w in TALL:
            found = triangular_tables(n, w, 3) + [deed_table(n, w, deed) for deed in (("and", 0, 1, 2), ("one", 1))]
            for one, other in itertools.product(found, repeat=2):
                for k in range(w):
                    lows = all_states(n, k)
                    first, second = level_signs(n, w, one, k), level_signs(n, w, other, k)
                    for low, sign in zip(lows, level_signs(n, w, both(one, other), k)):
                        behind = self.behind(n, w, one, k, low)
                        self.assertEqual(sign, (first[lows.index(low)] + second[lows.index(behind)]) % 2)

    def test_undone(self):
        for n, w in TALL:
            for table in triangular_tables(n, w, 4) + [deed_table(n, w, deed) for deed in deeds(n)[::9]]:
                for k in range(w):
                    lows = all_states(n, k)
                    signs = level_signs(n, w, undone_table(table), k)
                    for low, sign in zip(lows, level_signs(n, w, table, k)):
                        self.assertEqual(signs[lows.index(self.behind(n, w, table, k, low))], sign)

    def behind(self, n, w, table, k, low):
        """The low part at k to which the table leads this one."""
        image = all_states(n, w)[table[number_by_words(w, low)]]
        return tuple(word % 2 ** k for word in image)

    def test_still_is_even(self):
        for n, w in TALL:
            for k in range(w):
                self.assertEqual(level_signs(n, w, still(n, w), k), (0,) * 2 ** (n * k))

    def test_deeds(self):
        for n, w in TALL:
            for deed in deeds(n):
                table = deed_table(n, w, deed)
                sign = int(n == 3 and deed[0] == "and")
                for k in range(w):
                    self.assertEqual(level_signs(n, w, table, k), (sign,) * 2 ** (n * k), (n, w, deed))


class UnfitTest(LevelsCase):
    def check_exactly(self, n, w, table):
        """There is an error at k exactly if the table fails at some m up to k + 1; returns where it fails."""
        fails = [m for m in range(1, w + 1) if apart_below(n, w, table, m)]
        for k in range(w):
            if any(m <= k + 1 for m in fails):
                self.check_refused(n, w, table, k)
                continue
            rows = [moved(n, w, table, k, low) for low in all_states(n, k)]
            self.assertEqual(rows, [row_by_hand(n, w, table, k, low) for low in all_states(n, k)])
            self.assertEqual(level_signs(n, w, table, k), tuple(sign_by_pairs(row) for row in rows))
        return fails

    def test_one_level_is_never_refused(self):
        for n in range(3, 9):
            for table in drawn_tables(n, 1, 3):
                self.assertEqual(len(level_signs(n, 1, table, 0)), 1)
                self.assertEqual(len(moved(n, 1, table, 0, (0,) * n)), 2 ** n)

    def test_drawn_tables(self):
        for table in drawn_tables(3, 2, 8):
            self.assertEqual(self.check_exactly(3, 2, table), [1])
        self.assertEqual(self.check_exactly(4, 2, drawn_tables(4, 2, 1)[0]), [1])

    def test_two_images_exchanged(self):
        met = []
        for at, table in enumerate(triangular_tables(3, 2, 10) + [still(3, 2)]):
            for one in range(0, 64, 9):
                other = (one + 1 + 5 * at) % 64
                met.append(self.check_exactly(3, 2, exchanged(table, one, other)))
        self.assertIn([], met)
        self.assertIn([1], met)

    def test_any_two_states_that_are_not_alike(self):
        # Of still just these two go elsewhere, so that they must be alike below 1, and at no other level.
        found = all_states(3, 2)
        for one, other in itertools.combinations(range(64), 2):
            table = exchanged(still(3, 2), one, other)
            if [word % 2 for word in found[one]] == [word % 2 for word in found[other]]:
                self.assertEqual(level_signs(3, 2, table, 0), (0,))
                self.assertEqual(sum(level_signs(3, 2, table, 1)), 1)
            else:
                for k in (0, 1):
                    with self.assertRaises(Unfit):
                        level_signs(3, 2, table, k)
                    with self.assertRaises(Unfit):
                        moved(3, 2, table, k, (0, 0, 0))

    def test_failing_far_from_the_low_part_asked(self):
        # The last two states are exchanged: behind noughts all columns of level 1 stay.
        table = exchanged(still(3, 2), 62, 63)
        self.check_refused(3, 2, table, 1)
        self.check_refused(3, 2, table, 0)

    def test_failing_at_a_higher_level_only(self):
        numbers = [number_by_words(3, state) for state in ((0, 0, 0), (1, 0, 0), (2, 0, 0), (4, 0, 0))]
        noughts, low, middle, high = numbers
        for other, fails in ((low, [1, 2]), (middle, [2]), (high, [])):
            self.assertEqual(self.check_exactly(3, 3, exchanged(still(3, 3), noughts, other)), fails)
        for at, table in enumerate(triangular_tables(3, 3, 3)):
            for other, fails in ((low, [1, 2]), (middle, [2]), (high, [])):
                self.assertEqual(self.check_exactly(3, 3, exchanged(table, noughts, other)), fails)

    def test_failing_at_a_lower_level_only(self):
        # Level 0 of each state goes where it likes; all that are alike below 2 stay so.
        found = all_states(3, 3)
        lows = all_states(3, 2)
        turned = random.Random("lower").sample(lows, len(lows))
        led = dict(zip(lows, turned))
        table = []
        for state in found:
            low = led[tuple(word % 4 for word in state)]
            table.append(number_by_words(3, [part + word // 4 * 4 for part, word in zip(low, state)]))
        self.assertEqual(self.check_exactly(3, 3, tuple(table)), [1])


if __name__ == "__main__":
    unittest.main()

"""Programs that lead columns [E1], and how long they are [B3]."""

import itertools
import random
import unittest

from homewords.columns import columns_of, state_of
from homewords.columnwriting import column_program
from homewords.doing import table_of
from homewords.errors import Unfit, WordsError
from homewords.programs import length
from homewords.runs import run
from tests.crafted import drawn_columns, sign_by_pairs, turned_columns
from tests.limits import is_program_of
from tests.samples import all_states, column_by_bits, number_by_words


class ColumnsCase(unittest.TestCase):
    def check_program(self, n, moves, draw):
        program = column_program(n, moves)
        self.assertTrue(is_program_of(n, "bits", program), moves)
        self.assertEqual(table_of(n, 1, program), self.table(n, 1, moves))
        for w in (1, 2, 64):
            columns = tuple(draw.randrange(2 ** n) for _ in range(w))
            image = run(n, w, program, state_of(n, columns))
            self.assertEqual(columns_of(w, image), tuple(moves[column] for column in columns))
        return program

    def table(self, n, w, moves):
        """The table that leads each column at each level so."""
        found = []
        for state in all_states(n, w):
            columns = [moves[column_by_bits(state, k)] for k in range(w)]
            image = [sum((column >> place & 1) << k for k, column in enumerate(columns)) for place in range(n)]
            found.append(number_by_words(w, image))
        return tuple(found)

    def check_unfit(self, n, moves):
        for _ in range(2):
            with self.assertRaises(Unfit) as caught:
                column_program(n, moves)
            self.assertEqual(vars(caught.exception), {})
            self.assertIsInstance(caught.exception, WordsError)


class ThreeWordsTest(ColumnsCase):
    def test_many_rearrangements(self):
        draw = random.Random("three words")
        signs = set()
        for at, moves in enumerate(itertools.permutations(range(1, 8))):
            if at % 7 == 0:
                self.check_program(3, (0,) + moves, draw)
                signs.add(sign_by_pairs(moves))
        self.assertEqual(signs, {0, 1})

    def test_each_exchange_and_each_ring(self):
        draw = random.Random("three words' rings")
        for many in (2, 3):
            for ring in itertools.permutations(range(1, 8), many):
                self.check_program(3, turned_columns(3, list(ring)), draw)

    def test_all_levels_of_each_state(self):
        draw = random.Random("three words' levels")
        for _ in range(12):
            moves = drawn_columns(draw, 3, draw.randrange(2), True)
            program = column_program(3, moves)
            for w in (1, 2, 3):
                self.assertEqual(table_of(3, w, program), self.table(3, w, moves))


class MoreWordsTest(ColumnsCase):
    def test_rings_of_three(self):
        for n, step in ((4, 17), (5, 311)):
            draw = random.Random(f"rings {n}")
            for ring in list(itertools.permutations(range(1, 2 ** n), 3))[::step]:
                self.check_program(n, turned_columns(n, list(ring)), draw)
        # Sums of two others among them, and unlike ones.
        for ring in ((1, 2, 3), (3, 2, 1), (6, 10, 12), (15, 14, 13), (1, 2, 4), (7, 11, 13), (9, 15, 6)):
            for n in (4, 5):
                self.check_program(n, turned_columns(n, list(ring)), random.Random("sums"))

    def test_products_of_rings(self):
        for n in (4, 5):
            draw = random.Random(f"products {n}")
            for many in (2, 3, 5):
                moves = tuple(range(2 ** n))
                for _ in range(many):
                    ring = turned_columns(n, draw.sample(range(1, 2 ** n), 3))
                    moves = tuple(ring[column] for column in moves)
                self.check_program(n, moves, draw)

    def test_all_columns_even_and_odd(self):
        for n in (4, 5):
            draw = random.Random(f"all columns {n}")
            for _ in range(25):
                self.check_program(n, drawn_columns(draw, n, 0, True), draw)
                self.check_unfit(n, drawn_columns(draw, n, 1, True))

    def test_two_levels_by_table(self):
        draw = random.Random("two levels")
        for _ in range(4):
            moves = drawn_columns(draw, 4, 0, True)
            self.assertEqual(table_of(4, 2, column_program(4, moves)), self.table(4, 2, moves))

    def test_unfit_exactly_where_odd(self):
        for n in (4, 5):
            draw = random.Random(f"odd {n}")
            for many in (2, 4, 6, 2 ** n - 2):
                self.check_unfit(n, turned_columns(n, draw.sample(range(1, 2 ** n), many)))
            for many in (3, 5, 2 ** n - 1):
                self.check_program(n, turned_columns(n, draw.sample(range(1, 2 ** n), many)), draw)
            exchanged = turned_columns(n, [1, 2 ** n - 1])
            self.check_unfit(n, exchanged)
            both = turned_columns(n, [2, 3])
            self.check_program(n, tuple(both[column] for column in exchanged), draw)
            # Rows of columns the other way about: 2 ** n - 2 or 2 ** n - 1 of them.
            for last in (2 ** n - 2, 2 ** n - 1):
                moves = (0,) + tuple(range(last, 0, -1)) + tuple(range(last + 1, 2 ** n))
                if sign_by_pairs(moves):
                    self.check_unfit(n, moves)
                else:
                    self.check_program(n, moves, draw)


class ColumnProgramTest(ColumnsCase):
    def test_still(self):
        for n in (3, 4, 5):
            program = self.check_program(n, tuple(range(2 ** n)), random.Random("still"))
            self.assertEqual(length(program), 0)

    def test_few_enough_deeds_to_be_run(self):
        for n in (3, 4, 5):
            draw = random.Random(f"lengths {n}")
            for _ in range(10):
                moves = drawn_columns(draw, n, 0, True)
                self.assertLessEqual(length(column_program(n, moves)), 5000)
            # Exchanges side by side: each one costs most.
            pairs = list(range(1, 2 ** n - (1 if n == 3 else 3)))
            moves = (0,) + tuple(column + 1 if column % 2 else column - 1 for column in pairs)
            moves += tuple(range(len(moves), 2 ** n))
            self.assertLessEqual(length(self.check_program(n, moves, draw)), 5000)

    def test_more_words(self):
        # Somewhat beyond the five words.
        draw = random.Random("more words")
        moves = drawn_columns(draw, 6, 0, True)
        program = column_program(6, moves)
        self.assertTrue(is_program_of(6, "bits", program))
        self.assertEqual(table_of(6, 1, program), self.table(6, 1, moves))
        self.check_unfit(6, drawn_columns(draw, 6, 1, True))

    def test_arguments_stay_and_calls_are_equal(self):
        for n in (3, 4, 5):
            moves = drawn_columns(random.Random(f"equal {n}"), n, 0, True)
            before = repr(moves)
            first = column_program(n, moves)
            kept = repr(first)
            self.assertEqual(column_program(moves=tuple(list(moves)), n=n), first)
            self.assertEqual((repr(moves), repr(first)), (before, kept))


if __name__ == "__main__":
    unittest.main()

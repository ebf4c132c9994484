"""Programs that do one ring at level 1, where column 0 is a told one [E2], [B3]."""

import itertools
import random
import unittest

from homewords.columns import state_of
from homewords.doing import table_of
from homewords.errors import Unfit, WordsError
from homewords.marks import asked
from homewords.programs import language_of, length
from homewords.ringwriting import ring_program
from homewords.runs import run
from tests.limits import is_program_of
from tests.samples import all_states, number_by_words


def ring_table(n, column, u, v, z):
    """The table that does the ring and nothing else."""
    found = list(range(4 ** n))
    places = [number_by_words(2, state_of(n, (column, high))) for high in (u, v, z)]
    for place, following in zip(places, places[1:] + places[:1]):
        found[place] = following
    return tuple(found)


class RingCase(unittest.TestCase):
    def check_ring(self, n, language, column, u, v, z):
        program = ring_program(n, language, column, u, v, z)
        self.assertTrue(is_program_of(n, language, program))
        self.assertEqual(language_of(program), "sums" if column else "all")
        self.assertEqual(table_of(n, 2, program), ring_table(n, column, u, v, z), (n, language, column, u, v, z))
        return program

    def check_unfit(self, *arguments):
        for _ in range(2):
            with self.assertRaises(Unfit) as caught:
                ring_program(*arguments)
            self.assertEqual(vars(caught.exception), {})
            self.assertIsInstance(caught.exception, WordsError)


class RingTest(RingCase):
    def test_three_words(self):
        for language in ("sums", "all"):
            rings = [(c,) + ring for c in range(8) for ring in itertools.permutations(range(8), 3)]
            for ring in rings[::9]:
                if language == "all" or ring[0]:
                    self.check_ring(3, language, *ring)

    def test_four_words(self):
        for language in ("sums", "all"):
            draw = random.Random(f"four words {language}")
            for column in range(0 if language == "all" else 1, 16):
                for _ in range(4):
                    self.check_ring(4, language, column, *draw.sample(range(16), 3))

    def test_two_that_differ_by_the_column(self):
        for n in (3, 4):
            draw = random.Random(f"twins {n}")
            for column in range(1, 2 ** n):
                u = draw.randrange(2 ** n)
                z = draw.choice([z for z in range(2 ** n) if z not in (u, u ^ column)])
                ring = (u, u ^ column, z)
                for at in range(3 if n == 3 else 1):
                    self.check_ring(n, "sums", column, *(ring[at:] + ring[:at]))
                    self.check_ring(n, "sums", column, *(ring[at:] + ring[:at])[::-1])

    def test_columns_within_the_ring(self):
        for n in (3, 4):
            full = 2 ** n - 1
            for column in (0, 1, 2, 2 ** (n - 1), 6, full):
                others = [v for v in (full, 3, column ^ 1, 5) if v not in (0, column)]
                for ring in ((0, others[0], others[1]), (others[1], others[0], 0)):
                    self.check_ring(n, "all", column, *ring)
                if column:
                    for ring in ((column, others[0], others[1]), (0, column, others[0]), (others[1], column, 0)):
                        self.check_ring(n, "all", column, *ring)

    def test_ring_turned_about_is_the_same(self):
        for ring in ((3, 5, 6), (0, 7, 1)):
            tables = {table_of(3, 2, ring_program(3, "sums", 6, *(ring[at:] + ring[:at]))) for at in range(3)}
            self.assertEqual(tables, {ring_table(3, 6, *ring)})

    def test_asked(self):
        for n in (3, 4):
            self.assertEqual(asked(n, 2, ring_table(n, 5, 1, 2, 3)), "sums")
            self.assertEqual(asked(n, 2, ring_table(n, 0, 1, 2, 3)), "all")

    def test_few_enough_deeds_to_be_run(self):
        for n, ring in ((3, (7, 0, 1, 7)), (4, (9, 15, 0, 6)), (4, (12, 12, 0, 1))):
            program = self.check_ring(n, "all", *ring)
            self.assertLessEqual(length(program), 5000)
            for state in all_states(n, 2)[::5]:
                image = all_states(n, 2)[ring_table(n, *ring)[number_by_words(2, state)]]
                self.assertEqual(run(n, 2, program, state), image)


class UnfitTest(RingCase):
    def test_two_alike(self):
        for n in (3, 4):
            for language in ("sums", "all"):
                for column in (0, 1, 2 ** n - 1):
                    for u, v in ((0, 1), (1, 0), (5, 7), (column, 3)):
                        if u != v:
                            for ring in ((u, u, v), (u, v, u), (v, u, u), (u, u, u)):
                                self.check_unfit(n, language, column, *ring)

    def test_sums_with_the_column_nought(self):
        for n in (3, 4):
            for ring in ((1, 2, 4), (0, 1, 2), (7, 6, 5)):
                self.check_unfit(n, "sums", 0, *ring)
                self.check_ring(n, "all", 0, *ring)

    def test_exactly_these(self):
        for language, column, u, v, z in itertools.product(("sums", "all"), (0, 3), range(3), range(3), range(3)):
            if len({u, v, z}) < 3 or (language == "sums" and column == 0):
                self.check_unfit(3, language, column, u, v, z)
            else:
                self.check_ring(3, language, column, u, v, z)

    def test_calls_are_equal(self):
        first = ring_program(3, "sums", 5, 1, 2, 7)
        kept = repr(first)
        again = ring_program(z=7, v=2, u=1, column=5, language="sums", n=3)
        self.assertEqual((again, repr(first)), (first, kept))
        with self.assertRaises(Unfit):
            ring_program(n=3, language="sums", column=0, u=1, v=2, z=4)


if __name__ == "__main__":
    unittest.main()

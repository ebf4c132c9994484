"""How many tables can be done [D5]."""

import itertools
import unittest

from homewords.sizes import table_count
from tests.crafted import LANGUAGES, is_done
from tests.samples import SIZES


def factorial(many):
    found = 1
    for factor in range(2, many + 1):
        found *= factor
    return found


def even(many):
    return factorial(many) // 2


def count_by_words(n, w, language):
    """The product as the document tells it."""
    columns = 2 ** n
    if language == "bits":
        found = even(columns - 1)
    elif language == "sums":
        found = even(columns - 1)
        for k in range(1, w):
            found *= even(columns) ** ((columns - 1) * 2 ** (n * (k - 1)))
    else:
        found = 1
        for k in range(w):
            found *= even(columns) ** 2 ** (n * k)
    return found * 2 if n == 3 else found


class SizesTest(unittest.TestCase):
    def test_products(self):
        for n, w in SIZES + ((3, 3), (5, 2)):
            for language in LANGUAGES:
                found = table_count(n, w, language)
                self.assertIs(found.__class__, int)
                self.assertEqual(found, count_by_words(n, w, language))
                self.assertEqual(table_count(language=language, w=w, n=n), found)

    def test_bits_do_not_ask_for_the_width(self):
        for n, w in SIZES + ((3, 3), (5, 2)):
            self.assertEqual(table_count(n, w, "bits"), table_count(n, 1, "bits"))

    def test_one_bit(self):
        for n in range(3, 9):
            self.assertEqual(table_count(n, 1, "sums"), table_count(n, 1, "bits"))
            # With 1 more the column 0 may go to any one.
            self.assertEqual(table_count(n, 1, "all"), 2 ** n * table_count(n, 1, "sums"))

    def test_three_words_one_by_one(self):
        counted = {language: 0 for language in LANGUAGES}
        # Of those that lead 0 to any one there are as many as of those that leave it.
        for table in itertools.permutations(range(1, 8)):
            table = (0,) + table
            if table[1] < table[2]:
                continue
            for language in LANGUAGES:
                counted[language] += is_done(3, 1, language, table)
        self.assertEqual([2 * counted[language] for language in LANGUAGES], [5040, 5040, 5040])
        self.assertEqual([table_count(3, 1, language) for language in LANGUAGES], [5040, 5040, 8 * 5040])

    def test_numbers(self):
        self.assertEqual(table_count(3, 2, "sums"), 5040 * 20160 ** 7)
        self.assertEqual(table_count(3, 2, "all"), 2 * 20160 ** 9)
        self.assertEqual(table_count(4, 2, "bits"), factorial(15) // 2)
        self.assertEqual(table_count(4, 2, "sums"), even(15) * even(16) ** 15)
        self.assertEqual(table_count(4, 2, "all"), even(16) ** 17)
        self.assertEqual(table_count(8, 1, "all"), even(256))


if __name__ == "__main__":
    unittest.main()

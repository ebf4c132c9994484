"""Terms and programs, told of without doing them [B3], [B4]."""

import unittest

from homewords.bounds import MAX_DEEP, MAX_LENGTH, MAX_ROW, MAX_TERMS, MAX_TIMES
from homewords.errors import TooMany
from homewords.programs import language_of, length, sign_parity
from tests.samples import COUNTS, EMPTY, chain, deeds, programs, steps, within

ADD, XOR, AND, ONE = (("do", deed) for deed in (("add", 0, 1), ("xor", 1, 2), ("and", 0, 1, 2), ("one", 2)))
EACH = (ADD, XOR, AND, ONE)


def told(program):
    return length(program), language_of(program), sign_parity(program)


def told_by_steps(program):
    found = [deed[0] for deed, _ in steps(program, program[-1])]
    language = "all" if "one" in found else "sums" if "add" in found else "bits"
    return len(found), language, found.count("and") % 2


def huge(term):
    """A program that does the term 10 ** 330 times."""
    return chain(term, lambda part: ("times", part, MAX_TIMES), 12)


class TermsTest(unittest.TestCase):
    def test_each_deed(self):
        for n in COUNTS:
            for deed in deeds(n):
                for term in (("do", deed), ("back", ("do", deed))):
                    language = {"add": "sums", "one": "all"}.get(deed[0], "bits")
                    self.assertEqual(told((term,)), (1, language, int(deed[0] == "and")))

    def test_drawn_programs(self):
        for n in COUNTS:
            for program in programs(n, 120):
                self.assertEqual(told(program), told_by_steps(program), program)

    def test_row(self):
        self.assertEqual(told((EMPTY,)), (0, "bits", 0))
        self.assertEqual(told((("row", (XOR, AND, ADD)),)), (3, "sums", 1))
        self.assertEqual(told((("row", (AND, AND)),)), (2, "bits", 0))
        self.assertEqual(told((("row", (AND,) * MAX_ROW),)), (400, "bits", 0))
        self.assertEqual(told((("row", (AND,) * 399 + (ONE,)),)), (400, "all", 1))

    def test_back_counts_what_it_undoes(self):
        for term in EACH:
            self.assertEqual(told((("back", term),)), told((term,)))
            self.assertEqual(told((("back", ("back", term)),)), told((term,)))
            self.assertEqual(told((term, ("back", ("part", 0)))), told((term,)))
        self.assertEqual(told((("row", (AND, ("back", AND))),)), (2, "bits", 0))
        self.assertEqual(told((("row", (XOR, ("back", ("row", (AND, ONE))))),)), (3, "all", 1))

    def test_times(self):
        for term in EACH + (("row", (ADD, AND, XOR)),):
            many, language, odd = told((term,))
            self.assertEqual(told((("times", term, 0),)), (0, "bits", 0))
            self.assertEqual(told((("times", term, 1),)), (many, language, odd))
            self.assertEqual(told((("times", term, 2),)), (2 * many, language, 0))
            self.assertEqual(told((("times", term, 10 ** 30),)), (many * 10 ** 30, language, 0))
            self.assertEqual(told((("times", term, 10 ** 30 - 1),)), (many * (10 ** 30 - 1), language, odd))
        self.assertEqual(told((("times", EMPTY, 10 ** 30),)), (0, "bits", 0))
        self.assertEqual(told((("times", ("times", ONE, 0), 10 ** 30),)), (0, "bits", 0))
        self.assertEqual(told((("times", ("times", ONE, 10 ** 30), 0),)), (0, "bits", 0))
        self.assertEqual(told((("times", EMPTY, 0),)), (0, "bits", 0))

    def test_to_the_greatest_depth(self):
        for term in EACH:
            for kind in ("row", "back"):
                program = (within(term, kind, MAX_DEEP),)
                self.assertEqual(told(program), told((term,)))
        tall = AND
        for _ in range(MAX_DEEP - 1):
            tall = ("times", tall, 3)
        self.assertEqual(told((tall,)), (3 ** 11, "bits", 1))
        mixed = ONE
        for place in range(MAX_DEEP - 1):
            mixed = (("row", (mixed, AND)), ("back", mixed), ("times", mixed, 3))[place % 3]
        self.assertEqual(told((mixed,)), told_by_steps((mixed,)))

    def test_last_term_alone_is_done(self):
        self.assertEqual(told((ONE, AND, XOR)), (1, "bits", 0))
        self.assertEqual(told((ONE, AND, EMPTY)), (0, "bits", 0))
        self.assertEqual(told((ONE, AND, ("part", 1))), (1, "bits", 1))
        self.assertEqual(told((ONE, AND, ("row", (("part", 1), ("part", 0), ("part", 1))))), (3, "all", 0))


class ManyPartsTest(unittest.TestCase):
    def test_each_part_is_the_one_ahead(self):
        for term in EACH:
            for following in (lambda part: part, lambda part: ("back", part), lambda part: ("row", (part,))):
                self.assertEqual(told(chain(term, following, MAX_TERMS)), told((term,)))

    def test_each_part_is_the_one_ahead_and_a_deed(self):
        self.assertEqual(told(chain(AND, lambda part: ("row", (part, AND)), MAX_TERMS)), (1000, "bits", 0))
        self.assertEqual(told(chain(AND, lambda part: ("row", (part, AND)), MAX_TERMS - 1)), (999, "bits", 1))

    def test_each_part_uses_the_one_ahead_twice(self):
        def twice(part):
            return ("row", (part, ("back", part)))

        self.assertEqual(told(chain(AND, twice, 11)), (1024, "bits", 0))
        self.assertEqual(told(chain(ONE, twice, 997)), (2 ** 996, "all", 0))
        self.assertEqual(told(chain(EMPTY, twice, MAX_TERMS)), (0, "bits", 0))
        self.assertEqual(told(chain(("times", ONE, 0), twice, MAX_TERMS)), (0, "bits", 0))
        for program in (chain(AND, twice, 998), chain(AND, twice, MAX_TERMS)):
            with self.assertRaises(TooMany):
                length(program)

    def test_languages_and_signs_of_endless_programs(self):
        for term in EACH:
            _, language, odd = told((term,))
            thrice = chain(term, lambda part: ("row", (part, part, ("back", part))), MAX_TERMS)
            twice = chain(term, lambda part: ("times", part, 2), MAX_TERMS)
            uneven = chain(term, lambda part: ("times", part, 10 ** 30 - 1), MAX_TERMS)
            for program, sign in ((thrice, odd), (twice, 0), (uneven, odd), (huge(term), 0)):
                self.assertEqual((language_of(program), sign_parity(program)), (language, sign))
                with self.assertRaises(TooMany):
                    length(program)

    def test_one_more_deed_of_an_endless_program_is_seen(self):
        for term, expected in ((ADD, ("sums", 0)), (AND, ("bits", 1)), (ONE, ("all", 0))):
            program = huge(XOR) + (("row", (("part", 11), term)),)
            self.assertEqual((language_of(program), sign_parity(program)), expected)

    def test_parts_that_are_not_done_do_not_count(self):
        for idle in (EMPTY, ("times", ("part", 11), 0), ("back", ("times", ("part", 11), 0))):
            self.assertEqual(told(huge(ONE) + (idle,)), (0, "bits", 0))
            self.assertEqual(told(huge(AND) + (("row", (idle, ADD)),)), (1, "sums", 0))
            self.assertEqual(told(huge(AND) + (idle, ("row", (("part", 12), ADD)))), (1, "sums", 0))
        self.assertEqual(told((ONE, AND, ("part", 0), ("times", ("part", 2), 0), ("row", (("part", 3), XOR)))),
                         (1, "bits", 0))


class LengthTest(unittest.TestCase):
    def exactly_the_greatest(self):
        return chain(ADD, lambda part: ("times", part, MAX_TIMES), 11)

    def test_greatest_length(self):
        self.assertEqual(MAX_LENGTH, 10 ** 300)
        self.assertEqual(length(self.exactly_the_greatest()), 10 ** 300)
        self.assertEqual(length(self.exactly_the_greatest() + (("back", ("row", (("part", 10),))),)), 10 ** 300)

    def test_greatest_length_without_parts(self):
        term = XOR
        for _ in range(10):
            term = ("times", term, MAX_TIMES)
        self.assertEqual(length((term,)), 10 ** 300)
        self.assertEqual(length((("row", (term,)),)), 10 ** 300)
        with self.assertRaises(TooMany):
            length((("row", (term, XOR)),))

    def test_around_the_greatest_length(self):
        # The parts do 1, 10 ** 30, .., 10 ** 270 deeds: nines at all places make 10 ** 300 - 1.
        parts = chain(ADD, lambda part: ("times", part, MAX_TIMES), 10)
        nines = tuple(("times", ("part", place), MAX_TIMES - 1) for place in range(10))
        self.assertEqual(length(parts + (("row", nines),)), 10 ** 300 - 1)
        for extra in (ADD, ("back", ONE), ("part", 0)):
            self.assertEqual(length(parts + (("row", nines + (extra,)),)), 10 ** 300)
            with self.assertRaises(TooMany) as caught:
                length(parts + (("row", (extra,) + nines + (extra,)),))
            self.assertEqual(vars(caught.exception), {"limit": 10 ** 300})

    def test_too_many_then_done_no_times(self):
        self.assertEqual(length(huge(ADD) + (("times", ("part", 11), 0),)), 0)
        self.assertEqual(length(huge(ADD) + (("row", (("times", ("part", 11), 0), XOR)),)), 1)

    def test_limit_is_told(self):
        wide = chain(XOR, lambda part: ("row", (part,) * 10), 302)
        for program in (huge(ADD), huge(ADD) + (("back", ("part", 11)),), wide):
            with self.assertRaises(TooMany) as caught:
                length(program)
            self.assertEqual(vars(caught.exception), {"limit": 10 ** 300})


if __name__ == "__main__":
    unittest.main()

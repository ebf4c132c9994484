"""What programs do, as tables, and where tables lead [C4], [C5]."""

import unittest

from homewords.bounds import MAX_DEEP, MAX_ROW, MAX_TERMS, MAX_TIMES
from homewords.doing import led, table_of
from homewords.errors import TooMany
from homewords.programs import length
from homewords.runs import run
from homewords.states import state_number
from homewords.tables import both, deed_table, still, undone_table
from tests.samples import (
    EMPTY, SIZES, all_states, chain, deeds, drawn_tables, number_by_words, programs, steps, table_by_steps, within,
)

ADD, XOR, AND, ONE = (("do", deed) for deed in (("add", 0, 1), ("xor", 1, 2), ("and", 2, 0, 1), ("one", 2)))
EACH = (ADD, XOR, AND, ONE)
MIXED = ("row", (ADD, AND, ONE, XOR, ("back", ADD), ONE))
# It comes back after three times, so that it shows how often it is done as twos and tens do not.
THREES = ("row", (("do", ("xor", 0, 1)), ("do", ("xor", 1, 0))))


def done_often(table, times):
    """The table done so often, by the number of times after which it leaves all states."""
    found = [tuple(range(len(table)))]
    while both(found[-1], table) != found[0]:
        found.append(both(found[-1], table))
    return found[times % len(found)]


class LedTest(unittest.TestCase):
    def test_by_the_numbers_of_states(self):
        for n, w in SIZES:
            found = {number_by_words(w, state): state for state in all_states(n, w)}
            for table in drawn_tables(n, w, 3) + [still(n, w)]:
                for number, state in found.items():
                    self.assertEqual(led(n, w, table, state), found[table[number]])

    def test_still_and_deeds(self):
        for n, w in SIZES:
            for state in all_states(n, w):
                self.assertEqual(led(n, w, still(n, w), state), state)
        for state in all_states(4, 2):
            table = deed_table(4, 2, ("one", 3))
            self.assertEqual(led(4, 2, table, state), state[:3] + ((state[3] + 1) % 4,))


class DoingCase(unittest.TestCase):
    def check_still(self, program, n=3, w=2):
        self.assertEqual(table_of(n, w, program), still(n, w))

    def check_runs(self, n, w, program):
        """The table leads each state to where the program runs, and so do those of its parts."""
        for many in range(1, len(program) + 1):
            part = program[:many]
            table = table_of(n, w, part)
            for state in all_states(n, w):
                self.assertEqual(led(n, w, table, state), run(n, w, part, state), part)


class TableOfTest(DoingCase):
    def test_drawn_programs(self):
        for n, w in SIZES:
            for program in programs(n, 20):
                self.assertEqual(table_of(n, w, program), table_by_steps(n, w, program), program)

    def test_where_programs_run(self):
        for n, w in SIZES:
            shorter = [program for program in programs(n, 25) if len(steps(program, program[-1])) <= 60]
            for program in shorter[:8]:
                for many in range(1, len(program) + 1):
                    if len(steps(program[:many], program[many - 1])) <= 60:
                        table = table_of(n, w, program[:many])
                        for state in all_states(n, w):
                            self.assertEqual(led(n, w, table, state), run(n, w, program[:many], state), program)

    def test_each_part_as_a_program(self):
        program = (
            MIXED, ("back", ("part", 0)), ("times", ("part", 0), 3), EMPTY, ("row", (("part", 2), XOR, ("part", 1))),
            ("back", ("times", ("part", 4), 2)), ("times", ("part", 5), 0), ("row", (("part", 6), ("part", 5))),
        )
        for n, w in ((3, 1), (3, 2), (4, 1)):
            self.check_runs(n, w, program)

    def test_each_deed(self):
        for n, w in SIZES:
            for deed in deeds(n):
                table = deed_table(n, w, deed)
                self.assertEqual(table_of(n, w, (("do", deed),)), table)
                self.assertEqual(table_of(n, w, (("back", ("do", deed)),)), undone_table(table))

    def test_rows_begin_with_the_first_one(self):
        for n, w in SIZES:
            add, xor, both_bits, one = [deed_table(n, w, term[1]) for term in EACH]
            self.assertEqual(table_of(n, w, (("row", EACH),)), both(both(both(add, xor), both_bits), one))
            self.assertEqual(table_of(n, w, (("row", EACH[::-1]),)), both(both(both(one, both_bits), xor), add))
            self.assertEqual(table_of(n, w, (("row", (AND,)),)), both_bits)
            self.check_still((EMPTY,), n, w)
        self.assertEqual(table_of(3, 2, (("row", (ONE,) * (MAX_ROW - 1)),)), undone_table(deed_table(3, 2, ONE[1])))

    def test_back(self):
        for n, w in ((3, 1), (3, 2), (4, 2), (8, 1)):
            once = table_by_steps(n, w, (MIXED,))
            back = undone_table(once)
            thrice = both(once, both(once, once))
            for program, table in (
                ((("back", MIXED),), back),
                ((("back", ("back", MIXED)),), once),
                ((("back", ("back", ("back", MIXED))),), back),
                ((MIXED, ("back", ("part", 0))), back),
                ((MIXED, ("back", ("part", 0)), ("back", ("part", 1))), once),
                ((("back", ("times", MIXED, 3)),), undone_table(thrice)),
                ((("times", ("back", MIXED), 3),), undone_table(thrice)),
                ((MIXED, ("back", ("times", ("part", 0), 3))), undone_table(thrice)),
                ((("back", ("row", (MIXED, ADD))),), both(undone_table(table_of(n, w, (ADD,))), back)),
                ((("row", (MIXED, ("back", MIXED))),), still(n, w)),
                ((("back", EMPTY),), still(n, w)),
            ):
                self.assertEqual(table_of(n, w, program), table, program)

    def test_times(self):
        for n, w in ((3, 1), (3, 2), (4, 2), (8, 1)):
            for term in EACH + (MIXED, THREES):
                once = table_by_steps(n, w, (term,))
                for times in (0, 1, 2, 3, 5, 7, 10 ** 30 - 1, 10 ** 30):
                    table = done_often(once, times)
                    self.assertEqual(table_of(n, w, (("times", term, times),)), table)
                    self.assertEqual(table_of(n, w, (term, ("times", ("part", 0), times))), table)
                    self.assertEqual(table_of(n, w, (("back", ("times", term, times)),)), undone_table(table))

    def test_times_within_one_another(self):
        for often in ((10 ** 30, 10 ** 30), (10 ** 30 - 1, 10 ** 30 - 2, 5), (2,) * (MAX_DEEP - 2), (MAX_TIMES,) * 9):
            term, times = THREES, 1
            for k in often:
                term, times = ("times", term, k), times * k
            self.assertEqual(table_of(3, 2, (term,)), done_often(table_of(3, 2, (THREES,)), times))
            self.assertEqual(table_of(3, 2, (("back", term),)), done_often(table_of(3, 2, (THREES,)), 2 * times))
            self.check_still((("times", term, 0),))
            self.check_still((("times", ("times", THREES, 0), 10 ** 30),))

    def test_to_the_greatest_depth(self):
        for term in EACH:
            for n, w in ((3, 2), (5, 1)):
                table = deed_table(n, w, term[1])
                self.assertEqual(table_of(n, w, (within(term, "row", MAX_DEEP),)), table)
                self.assertEqual(table_of(n, w, (within(term, "back", MAX_DEEP),)), undone_table(table))
                self.assertEqual(table_of(n, w, (within(term, "back", MAX_DEEP - 1),)), table)
        mixed = ONE
        for place in range(MAX_DEEP - 1):
            mixed = (("row", (mixed, AND)), ("back", mixed), ("times", mixed, 3), ("row", (ADD, mixed)))[place % 4]
        self.assertEqual(table_of(3, 2, (mixed,)), table_by_steps(3, 2, (mixed,)))
        tall = THREES
        for _ in range(MAX_DEEP - 2):
            tall = ("times", tall, 5)
        self.assertEqual(table_of(3, 2, (tall,)), done_often(table_of(3, 2, (THREES,)), 5 ** 10))

    def test_last_term_alone_is_done(self):
        self.assertEqual(table_of(3, 2, (ONE, ADD, XOR)), deed_table(3, 2, XOR[1]))
        self.assertEqual(table_of(3, 2, (ONE, ADD, ("part", 0))), deed_table(3, 2, ONE[1]))
        self.check_still((ONE, ADD, EMPTY))

    def test_parts_that_are_not_used(self):
        endless = chain(ONE, lambda part: ("times", part, MAX_TIMES), 12)
        doubled = chain(ONE, lambda part: ("row", (part, part)), MAX_TERMS - 2)
        for ahead in (endless, doubled):
            last = ("part", len(ahead) - 1)
            self.assertEqual(table_of(3, 2, ahead + (ADD,)), deed_table(3, 2, ADD[1]))
            self.assertEqual(table_of(3, 2, ahead + (("part", 0),)), deed_table(3, 2, ONE[1]))
            self.check_still(ahead + (EMPTY,))
            self.check_still(ahead + (("times", last, 0),))
            self.check_still(ahead + (("times", ("row", (last, XOR)), 0), ("back", ("part", len(ahead)))))


class ManyPartsTest(DoingCase):
    def test_each_part_is_the_one_ahead_or_undoes_it(self):
        for n, w in ((3, 1), (3, 2), (8, 1)):
            for term in (ADD, ONE, MIXED, THREES):
                once = table_by_steps(n, w, (term,))
                self.assertEqual(table_of(n, w, chain(term, lambda part: part, MAX_TERMS)), once)
                turned = chain(term, lambda part: ("back", part), MAX_TERMS)
                self.assertEqual(table_of(n, w, turned), undone_table(once))
                self.assertEqual(table_of(n, w, turned[:-1]), once)

    def test_each_part_uses_the_one_ahead_twice(self):
        for n, w in ((3, 1), (3, 2), (4, 2)):
            for term in EACH + (MIXED, THREES):
                once = table_by_steps(n, w, (term,))
                for many in (14, 100, 996, 999, MAX_TERMS):
                    doubled = chain(term, lambda part: ("row", (part, part)), many)
                    self.assertEqual(table_of(n, w, doubled), done_often(once, 2 ** (many - 1)))

    def test_more_deeds_than_length_tells(self):
        doubled = chain(THREES, lambda part: ("row", (part, part)), MAX_TERMS)
        often = chain(THREES, lambda part: ("times", part, MAX_TIMES - 2), 12)
        for program, times in ((doubled, 2 ** 999), (often, (10 ** 30 - 2) ** 11)):
            with self.assertRaises(TooMany):
                length(program)
            with self.assertRaises(TooMany):
                run(3, 2, program, (1, 2, 3))
            once = table_by_steps(3, 2, (THREES,))
            self.assertNotEqual(done_often(once, times), still(3, 2))
            self.assertEqual(table_of(3, 2, program), done_often(once, times))
            undoing = program + (("back", ("part", len(program) - 1)),)
            self.assertEqual(table_of(3, 2, undoing), undone_table(done_often(once, times)))

    def test_there_and_back_within_one_another(self):
        for term in EACH + (MIXED,):
            thrice = chain(term, lambda part: ("row", (part, part, ("back", part))), MAX_TERMS)
            self.assertEqual(table_of(3, 2, thrice), table_by_steps(3, 2, (term,)))
            self.check_still(chain(term, lambda part: ("row", (part, ("back", part))), MAX_TERMS))

    def test_each_part_does_the_two_ahead(self):
        # The numbers of deeds are those of Fibonacci, and so are the powers of one table.
        program = (THREES, THREES) + tuple(("row", (("part", k), ("part", k + 1))) for k in range(MAX_TERMS - 2))
        one = other = 1
        for _ in range(MAX_TERMS - 2):
            one, other = other, one + other
        once = table_by_steps(3, 2, (THREES,))
        self.assertEqual(table_of(3, 2, program), done_often(once, other))

    def test_led_is_run_up_to_its_length(self):
        doubled = chain(("row", (ONE, ADD)), lambda part: ("row", (part, part)), 12)
        table = table_of(3, 2, doubled)
        for state in all_states(3, 2):
            self.assertEqual(led(3, 2, table, state), run(3, 2, doubled, state))
            self.assertEqual(table[state_number(2, state)], state_number(2, run(3, 2, doubled, state)))


if __name__ == "__main__":
    unittest.main()

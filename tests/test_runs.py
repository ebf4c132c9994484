"""Programs done to states [B5], [B6]."""

import unittest

from homewords.bounds import MAX_DEEP, MAX_ROW, MAX_STEPS, MAX_TERMS, MAX_TIMES
from homewords.columns import agree, columns_of, state_of
from homewords.errors import TooMany
from homewords.programs import language_of
from homewords.runs import run
from tests.samples import COUNTS, EMPTY, all_states, chain, deed_by_bits, deeds, programs, states, steps, within

ADD, XOR, AND, ONE = (("do", deed) for deed in (("add", 0, 1), ("xor", 1, 2), ("and", 2, 0, 1), ("one", 2)))
EACH = (ADD, XOR, AND, ONE)
MIXED = ("row", (ADD, AND, ONE, XOR, ("back", ADD), ONE))
START = (1, 2, 2 ** 63 + 3)


def run_by_steps(w, program, state):
    for deed, sign in steps(program, program[-1]):
        state = deed_by_bits(w, state, deed, sign)
    return state


class RunCase(unittest.TestCase):
    def check_refused(self, program):
        with self.assertRaises(TooMany) as caught:
            run(3, 64, program, START)
        self.assertEqual(vars(caught.exception), {"limit": 5000})

    def check_idle(self, program):
        self.assertEqual(run(3, 64, program, START), START)


class RunTest(RunCase):
    def test_drawn_programs(self):
        for n in COUNTS:
            for w, many in ((1, 15), (2, 15), (64, 10)):
                for program in programs(n, many):
                    for state in states(n, w, 1)[::2]:
                        self.assertEqual(run(n, w, program, state), run_by_steps(w, program, state), program)

    def test_each_deed_on_all_places(self):
        for n in (3, 8):
            for deed in deeds(n):
                for state in states(n, 5, 1):
                    self.assertEqual(run(n, 5, (("do", deed),), state), deed_by_bits(5, state, deed))
                    self.assertEqual(run(n, 5, (("back", ("do", deed)),), state), deed_by_bits(5, state, deed, -1))

    def test_rows_begin_with_the_first_one(self):
        self.assertEqual(run(3, 4, (("row", (ADD, ("do", ("xor", 1, 0)))),), (1, 2, 0)), (3, 1, 0))
        self.assertEqual(run(3, 4, (("row", (("do", ("xor", 1, 0)), ADD)),), (1, 2, 0)), (4, 3, 0))
        self.check_idle((EMPTY,))
        self.assertEqual(run(3, 64, (("row", (ONE,) * MAX_ROW),), (0, 0, 7)), (0, 0, 407))

    def test_back(self):
        for state in states(3, 64):
            forth = run(3, 64, (MIXED,), state)
            self.assertEqual(run(3, 64, (("back", MIXED),), forth), state)
            self.assertEqual(run(3, 64, (("back", ("back", MIXED)),), state), forth)
            self.assertEqual(run(3, 64, (MIXED, ("back", ("part", 0))), forth), state)
            self.assertEqual(run(3, 64, (MIXED, ("back", ("part", 0)), ("back", ("part", 1))), state), forth)
            thrice = run(3, 64, (("times", MIXED, 3),), state)
            self.assertEqual(run(3, 64, (("row", (MIXED, MIXED, MIXED)),), state), thrice)
            self.assertEqual(run(3, 64, (("back", ("times", MIXED, 3)),), thrice), state)
            self.assertEqual(run(3, 64, (("times", ("back", MIXED), 3),), thrice), state)
            self.assertEqual(run(3, 64, (MIXED, ("back", ("times", ("part", 0), 3))), thrice), state)
            self.assertEqual(run(3, 64, (("row", (MIXED, ("back", MIXED))),), state), state)

    def test_to_the_greatest_depth(self):
        for state in states(3, 6):
            once = run(3, 6, (MIXED,), state)
            self.assertEqual(run(3, 6, (within(MIXED, "row", MAX_DEEP - 1),), state), once)
            self.assertEqual(run(3, 6, (within(MIXED, "back", MAX_DEEP - 1),), state), once)
            self.assertEqual(run(3, 6, (within(MIXED, "back", MAX_DEEP - 2),), once), state)
        tall = ONE
        for _ in range(MAX_DEEP - 1):
            tall = ("times", tall, 2)
        self.assertEqual(run(3, 64, (tall,), (0, 0, 5)), (0, 0, 2053))

    def test_last_term_alone_is_done(self):
        self.assertEqual(run(3, 4, (ONE, ADD, XOR), (1, 2, 3)), (1, 1, 3))
        self.assertEqual(run(3, 4, (ONE, ADD, ("part", 1)), (1, 2, 3)), (3, 2, 3))
        self.check_idle((ONE, ADD, EMPTY))


class StepsTest(RunCase):
    def test_up_to_the_greatest_number_of_deeds(self):
        for many in (1, 4999, 5000):
            self.assertEqual(run(3, 64, (("times", ONE, many),), (0, 0, 2 ** 64 - 1)), (0, 0, many - 1))
            self.assertEqual(run(3, 64, (("back", ("times", ONE, many)),), (0, 0, many)), (0, 0, 0))
            self.assertEqual(run(3, 64, (ADD, ("times", ("part", 0), many)), (0, 3, 1)), (3 * many, 3, 1))
        rows = ("times", ("row", (XOR,) * 50), 100)
        self.check_idle((rows,))
        self.check_idle((("row", (rows, EMPTY)),))
        self.assertEqual(run(3, 4, (("times", ("row", (ONE, ("back", ONE))), 2500),), (1, 2, 3)), (1, 2, 3))

    def test_one_deed_too_many(self):
        self.assertEqual(MAX_STEPS, 5000)
        for term in EACH:
            self.check_refused((("times", term, 5001),))
            self.check_refused((("back", ("times", term, 5001)),))
            self.check_refused((("times", ("row", (term, ("back", term), term)), 1667),))
            self.check_refused((("times", term, 5000), ("row", (("part", 0), term))))
            self.check_refused((("times", term, 5000), ("row", (term, ("part", 0)))))

    def test_far_too_many(self):
        for term in EACH:
            self.check_refused((("times", term, MAX_TIMES),))
            self.check_refused(chain(term, lambda part: ("times", part, MAX_TIMES), 12))
            self.check_refused(chain(term, lambda part: ("row", (part, ("back", part))), MAX_TERMS))

    def test_no_deed_at_once_however_often(self):
        for nothing in (EMPTY, ("times", ONE, 0), ("row", (EMPTY,) * MAX_ROW), ("back", EMPTY)):
            term = nothing
            for _ in range(MAX_DEEP - 3):
                term = ("times", term, MAX_TIMES)
            self.check_idle((term,))
            self.check_idle((("back", term),))
            self.check_idle((nothing, ("times", ("part", 0), MAX_TIMES)))
            self.check_idle(chain(nothing, lambda part: ("times", part, MAX_TIMES), MAX_TERMS))
            self.check_idle(chain(nothing, lambda part: ("row", (part, ("back", part))), MAX_TERMS))
            self.assertEqual(run(3, 64, (("row", (term, ONE, term)),), (0, 0, 1)), (0, 0, 2))

    def test_far_too_many_done_no_times(self):
        endless = chain(ONE, lambda part: ("times", part, MAX_TIMES), 12)
        idle = ("times", ("part", 11), 0)
        self.check_idle(endless + (idle,))
        self.check_idle(endless + (("times", idle, MAX_TIMES),))
        self.check_idle(endless + (("back", ("row", (idle, idle))),))
        self.check_idle((("times", ("times", ONE, MAX_TIMES), 0),))
        self.assertEqual(run(3, 4, endless + (("row", (idle, ("part", 0))),), (1, 2, 3)), (1, 2, 4))
        self.assertEqual(run(3, 4, endless + (idle, ("row", (("part", 12), ONE))), (1, 2, 3)), (1, 2, 4))

    def test_terms_ahead_that_are_not_used(self):
        endless = chain(ONE, lambda part: ("times", part, MAX_TIMES), 12)
        self.assertEqual(run(3, 4, endless + (ADD,), (1, 2, 3)), (3, 2, 3))
        self.assertEqual(run(3, 4, endless + (("part", 0),), (1, 2, 3)), (1, 2, 4))
        self.assertEqual(run(3, 4, (("times", ONE, 5001), ADD, ("part", 1)), (1, 2, 3)), (3, 2, 3))

    def test_parts_within_one_another(self):
        self.assertEqual(run(3, 4, chain(ADD, lambda part: part, MAX_TERMS), (1, 2, 3)), (3, 2, 3))
        turned = chain(ADD, lambda part: ("back", part), MAX_TERMS)
        self.assertEqual(run(3, 4, turned, (3, 2, 3)), (1, 2, 3))
        self.assertEqual(run(3, 4, turned[:-1], (1, 2, 3)), (3, 2, 3))
        rising = chain(ONE, lambda part: ("row", (part, ONE)), MAX_TERMS)
        self.assertEqual(run(3, 64, rising, (0, 0, 0)), (0, 0, 1000))
        doubled = chain(ONE, lambda part: ("row", (part, part)), 13)
        self.assertEqual(run(3, 64, doubled, (0, 0, 0)), (0, 0, 4096))
        self.check_refused(chain(ONE, lambda part: ("row", (part, part)), 14))

    def test_many_deeds_deep_within_parts(self):
        full = chain(("times", ONE, 5000), lambda part: ("back", part), MAX_TERMS - 1)
        self.assertEqual(run(3, 64, full, (0, 0, 0)), (0, 0, 5000))
        often = chain(ONE, lambda part: ("row", (part,)), MAX_TERMS - 200) + (("times", ("part", 799), 5000),)
        self.assertEqual(run(3, 64, often, (0, 0, 0)), (0, 0, 5000))


class WhatHoldsTest(unittest.TestCase):
    def test_unlike_states_go_to_unlike_ones(self):
        for n, w in ((3, 1), (3, 2), (4, 1)):
            for program in programs(n, 25):
                self.assertEqual(len({run(n, w, program, state) for state in all_states(n, w)}), 2 ** (n * w))

    def test_agreement_stays(self):
        for n, w in ((3, 4), (5, 64)):
            for program in programs(n, 20):
                found = states(n, w, 4)
                ends = [run(n, w, program, state) for state in found]
                for one, end in zip(found, ends):
                    for other, last in zip(found, ends):
                        self.assertEqual(agree(w, end, last), agree(w, one, other))

    def test_noughts_and_doubles_without_one(self):
        met = 0
        for n, w in ((3, 4), (4, 64), (8, 2)):
            for program in programs(n, 150):
                if language_of(program) == "all":
                    continue
                met += 1
                self.assertEqual(run(n, w, program, (0,) * n), (0,) * n)
                for state in states(n, w, 1):
                    doubled = tuple(2 * word % 2 ** w for word in state)
                    end = tuple(2 * word % 2 ** w for word in run(n, w, program, state))
                    self.assertEqual(run(n, w, program, doubled), end)
        self.assertGreater(met, 50)

    def test_levels_by_themselves_in_bits(self):
        met = 0
        for n in (3, 4, 8):
            for program in programs(n, 200):
                if language_of(program) != "bits":
                    continue
                met += 1
                for w in (1, 3, 64):
                    for state in states(n, w, 1)[-2:]:
                        alone = [run(n, 1, program, state_of(n, (column,))) for column in columns_of(w, state)]
                        ends = columns_of(w, run(n, w, program, state))
                        self.assertEqual([state_of(n, (column,)) for column in ends], alone)
        self.assertGreater(met, 50)


if __name__ == "__main__":
    unittest.main()

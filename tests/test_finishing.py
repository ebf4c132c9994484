"""Tables that finish pairs, how many there are, and what pairs tell of other states [F4], [F5], [F6], [A2]."""

import copy
import itertools
import random
import unittest

from homewords.columns import columns_of, state_of
from homewords.doing import led
from homewords.errors import Barred, Unfit, WordsError
from homewords.finishing import finish_count, finished, tells
from homewords.marks import mark_paper
from homewords.pairpapers import pair_holds, pair_paper
from homewords.sizes import table_count
from homewords.writing import written
from tests.crafted import LANGUAGES, turned_columns
from tests.limits import is_program_of
from tests.paired import (
    drawn_state, image_by, led_pairs, spoilt_pairs, told_sign, ways_to_finish, what_is_told, with_second,
)
from tests.samples import SIZES, all_states, column_by_bits, number_by_words


def factorial(many):
    found = 1
    for factor in range(2, many + 1):
        found *= factor
    return found


def count_by_words(n, w, language, pairs):
    """The product as the document tells it; there is no paper."""
    told = what_is_told(n, w, language, pairs)
    spots = [(k, low) for k in range(w) for low in all_states(n, k)]
    if language == "bits":
        spots = [()]
    if language == "sums":
        spots = [(k, low) for k, low in spots if k == 0 or column_by_bits(low, 0)]
    found = 1
    for spot in spots:
        many = 2 ** n - len(told.get(spot, {}))
        halved = many >= 2 and not (language == "bits" and n == 3)
        found *= factorial(many) // 2 if halved else factorial(many)
    if n == 3 and language != "bits" and all(told_sign(n, goings) is None for goings in told.values()):
        found *= 2
    return found


class FinishCase(unittest.TestCase):
    def check_refused(self, n, w, language, pairs):
        """There is a paper, and so nothing is finished."""
        with self.assertRaises(Barred) as caught:
            finished(n, w, language, pairs)
        self.assertIsInstance(caught.exception, WordsError)
        self.assertEqual(list(vars(caught.exception)), ["paper"])
        self.assertTrue(pair_holds(n, w, language, pairs, caught.exception.paper))
        self.assertEqual(finish_count(n, w, language, pairs), 0)
        self.check_untold(n, w, language, pairs)

    def check_untold(self, n, w, language, pairs):
        states = [first for first, _ in pairs[:2]] + [(0,) * n, (2 ** w - 1,) * n]
        for state in states:
            with self.assertRaises(Unfit) as caught:
                tells(n, w, language, pairs, state)
            self.assertEqual(vars(caught.exception), {})
            self.assertIsInstance(caught.exception, WordsError)

    def check_finished(self, n, w, language, pairs):
        """The table is done by the language and leads the pairs, if there is no paper; returns it."""
        if pair_paper(n, w, language, pairs) is not None:
            return self.check_refused(n, w, language, pairs)
        table = finished(n, w, language, pairs)
        self.assertIs(table.__class__, tuple)
        self.assertEqual({number.__class__ for number in table}, {int})
        self.assertEqual(sorted(table), list(range(2 ** (n * w))))
        self.assertIsNone(mark_paper(n, w, language, table), (n, w, language, pairs))
        for first, second in pairs:
            self.assertEqual(led(n, w, table, first), second)
        self.assertEqual(finish_count(n, w, language, pairs), count_by_words(n, w, language, pairs))
        return table


class FinishedTest(FinishCase):
    def test_pairs_that_are_led(self):
        for n, w in SIZES:
            draw = random.Random(f"finished {n} {w}")
            for at, language in enumerate(LANGUAGES):
                for many in (0, 1, 2, 5, 2 ** n - 1, 2 ** (n * w) - 3, 2 ** (n * w) - 1):
                    pairs, _ = led_pairs(draw, n, w, language, max(many, 0))
                    for other in LANGUAGES[at:]:
                        self.assertIsNotNone(self.check_finished(n, w, other, pairs))

    def test_all_states(self):
        for n, w in SIZES:
            draw = random.Random(f"finished whole {n} {w}")
            for language in LANGUAGES:
                pairs, program = led_pairs(draw, n, w, language, 2 ** (n * w))
                table = self.check_finished(n, w, language, pairs)
                self.assertEqual(table, tuple(number_by_words(w, image_by(w, program, x)) for x in all_states(n, w)))
                self.assertEqual(finish_count(n, w, language, pairs), 1)

    def test_spoilt_pairs(self):
        met = set()
        for n, w in SIZES:
            draw = random.Random(f"finished spoilt {n} {w}")
            for language in LANGUAGES:
                for many in (2, 6):
                    pairs, _ = led_pairs(draw, n, w, language, many)
                    for spoilt in spoilt_pairs(draw, n, w, pairs):
                        for other in LANGUAGES:
                            met.add((other, self.check_finished(n, w, other, spoilt) is None))
        self.assertEqual(met, {(language, barred) for language in LANGUAGES for barred in (True, False)})

    def test_programs_can_be_written(self):
        for n, w in ((3, 1), (3, 2), (4, 1), (4, 2), (5, 1)):
            draw = random.Random(f"finished and written {n} {w}")
            for language in LANGUAGES:
                pairs, _ = led_pairs(draw, n, w, language, 6)
                table = self.check_finished(n, w, language, pairs)
                self.assertTrue(is_program_of(n, language, written(n, w, language, table)))

    def test_signs_of_three_words_go_together(self):
        # Level 0 is told whole, by either sign: all else goes by the same one.
        for ring, sign in (([1, 2], 1), ([1, 2, 4], 0)):
            moves = turned_columns(3, ring)
            pairs = tuple((state_of(3, (v, 0)), state_of(3, (moves[v], 0))) for v in range(8))
            for language in ("sums", "all"):
                table = self.check_finished(3, 2, language, pairs)
                for low in range(1, 8):
                    row = [columns_of(2, led(3, 2, table, state_of(3, (low, v))))[1] for v in range(8)]
                    self.assertEqual(told_sign(3, dict(enumerate(row))), sign)

    def test_a_third_level(self):
        # Somewhat beyond MAX_BITS.
        draw = random.Random("finished at three levels")
        for language in LANGUAGES:
            pairs, _ = led_pairs(draw, 3, 3, language, 40)
            self.assertIsNotNone(self.check_finished(3, 3, language, pairs))


class CountTest(FinishCase):
    def test_no_pairs(self):
        for n, w in SIZES:
            for language in LANGUAGES:
                self.assertEqual(finish_count(n, w, language, ()), table_count(n, w, language))

    def test_few_columns_untold(self):
        for n in range(3, 9):
            for sign, ring in ((0, [1, 2, 4]), (1, [1, 2])):
                moves = turned_columns(n, ring)
                for left_out in range(5):
                    pairs = tuple((state_of(n, (v,)), state_of(n, (moves[v],))) for v in range(1 + left_out, 2 ** n))
                    for language in LANGUAGES:
                        untold = left_out + (language == "all")
                        expected = factorial(untold)
                        if not (language == "bits" and n == 3):
                            expected = expected // 2 if untold > 1 else expected
                        if n == 3 and language != "bits" and untold > 1:
                            expected *= 2
                        # What is told may be no rearrangement that can be finished: 1 goes to 2, and so on.
                        if pair_paper(n, 1, language, pairs) is not None:
                            expected = 0
                            self.assertTrue(n > 3 and sign and untold < 2)
                        self.assertEqual(finish_count(n, 1, language, pairs), expected, (n, language, left_out, ring))

    def test_three_words_of_two_bits(self):
        moves = turned_columns(3, [1, 2])
        low = tuple((state_of(3, (v, 0)), state_of(3, (moves[v], 0))) for v in range(8))
        # Level 0 is told whole, and of level 1 one column behind each low part; for "sums" 0 at level 0 tells no more.
        self.assertEqual(finish_count(3, 2, "all", low), 2520 ** 8)
        self.assertEqual(finish_count(3, 2, "sums", low), 2520 ** 7)
        self.assertEqual(finish_count(3, 2, "bits", low), 1)
        self.assertEqual(finish_count(3, 2, "all", low[1:]), 2520 ** 7 * 20160)
        self.assertEqual(finish_count(3, 2, "all", low[2:]), 2520 ** 6 * 20160 ** 2 * 2)
        self.assertEqual(finish_count(3, 2, "sums", low[2:]), 2520 ** 6 * 20160)
        self.assertEqual(finish_count(3, 2, "sums", low[3:]), 2520 ** 5 * 20160 ** 2 * 2)

    def test_one_first_more(self):
        # Each table leads the first somewhere: over all seconds it sums up.
        for n, w in ((3, 1), (4, 1), (5, 1), (3, 2)):
            draw = random.Random(f"sums up {n} {w}")
            for language in LANGUAGES:
                for many in (0, 1, 3, 2 ** n - 3, 2 ** n - 2):
                    pairs, _ = led_pairs(draw, n, w, language, many)
                    firsts = [first for first, _ in pairs]
                    state = draw.choice([state for state in all_states(n, w) if state not in firsts])
                    counts = [finish_count(n, w, language, pairs + ((state, image),)) for image in all_states(n, w)]
                    self.assertEqual(sum(counts), finish_count(n, w, language, pairs), (n, w, language, pairs, state))

    def test_three_words_of_one_bit_table_by_table(self):
        tables = {"bits": [(0,) + row for row in itertools.permutations(range(1, 8))]}
        tables["sums"] = tables["bits"]
        tables["all"] = [row for row in itertools.permutations(range(8)) if row[3] < 4]
        states = all_states(3, 1)
        draw = random.Random("table by table")
        for language in LANGUAGES:
            for many in (0, 1, 2, 4, 5, 6, 7):
                pairs, _ = led_pairs(draw, 3, 1, language, many)
                if language == "all":
                    # A quarter and another one of all tables, those with an image below 4 of the state 3.
                    pairs = tuple(pair for pair in pairs if pair[0] != states[3]) + ((states[3], states[draw.randrange(4)]),)
                for tried in [pairs] + spoilt_pairs(draw, 3, 1, pairs):
                    if language == "all" and dict(tried)[states[3]] not in states[:4]:
                        continue
                    wanted = [(states.index(first), states.index(second)) for first, second in tried]
                    left = [table for table in tables[language] if all(table[a] == b for a, b in wanted)]
                    self.assertEqual(finish_count(3, 1, language, tried), len(left), (language, tried))
                    for at, state in enumerate(states):
                        images = {table[at] for table in left}
                        if not images:
                            with self.assertRaises(Unfit):
                                tells(3, 1, language, tried, state)
                            continue
                        expected = states[min(images)] if len(images) == 1 else None
                        self.assertEqual(tells(3, 1, language, tried, state), expected, (language, tried, state))


class TellsTest(FinishCase):
    def check_told(self, n, w, language, pairs, state):
        """What is told of the state is what all seconds that fit tell; returns it."""
        found = tells(n, w, language, pairs, state)
        if state in dict(pairs):
            self.assertEqual(found, dict(pairs)[state])
            return found
        fit = [image for image in all_states(n, w) if pair_paper(n, w, language, pairs + ((state, image),)) is None]
        self.assertEqual(found, fit[0] if len(fit) == 1 else None, (n, w, language, pairs, state, fit))
        self.assertTrue(fit)
        return found

    def test_firsts(self):
        for n, w in ((3, 1), (5, 1), (8, 1), (3, 2), (4, 2), (3, 9), (4, 64), (8, 64)):
            draw = random.Random(f"firsts {n} {w}")
            for at, language in enumerate(LANGUAGES):
                for many in (1, 3, 20):
                    pairs, _ = led_pairs(draw, n, w, language, many)
                    for first, second in pairs[::3]:
                        for other in LANGUAGES[at:]:
                            self.assertEqual(tells(n, w, other, pairs, first), second)

    def test_against_all_seconds(self):
        met = set()
        for n, w in ((3, 1), (4, 1), (5, 1), (3, 2)):
            draw = random.Random(f"seconds {n} {w}")
            for language in LANGUAGES:
                for many in (0, 2, 5, 2 ** n - 3, 2 ** n - 2, 2 ** n - 1, 2 ** (n * w) - 2 ** n):
                    pairs, _ = led_pairs(draw, n, w, language, many)
                    for state in draw.sample(all_states(n, w), 6):
                        told = self.check_told(n, w, language, pairs, state)
                        met.add((language, told is None, state in dict(pairs)))
        for language in LANGUAGES:
            self.assertLessEqual({(language, True, False), (language, False, False), (language, False, True)}, met)

    def test_a_told_pair_changes_nothing(self):
        for n, w in ((3, 1), (4, 1), (3, 2), (4, 2)):
            draw = random.Random(f"told pairs {n} {w}")
            for language in LANGUAGES:
                for many in (3, 2 ** n - 2, 2 ** (n * w) - 2 ** n // 2):
                    pairs, program = led_pairs(draw, n, w, language, many)
                    count = finish_count(n, w, language, pairs)
                    states = draw.sample(all_states(n, w), 5)
                    told = [tells(n, w, language, pairs, state) for state in states]
                    for state, image in zip(states, told):
                        true_one = image_by(w, program, state)
                        self.assertIn(image, (None, true_one))
                        if state in dict(pairs):
                            continue
                        more = pairs + ((state, true_one),)
                        if image is None:
                            self.assertLess(finish_count(n, w, language, more), count)
                            continue
                        self.assertEqual(finish_count(n, w, language, more), count)
                        self.assertEqual([tells(n, w, language, more, other) for other in states], told)

    def test_one_and_two_untold(self):
        for n in (3, 4, 6):
            for ring in ([1, 2], [1, 2, 4]):
                moves = turned_columns(n, ring)
                odd = len(ring) == 2
                pairs = tuple((state_of(n, (v,)), state_of(n, (moves[v],))) for v in range(1, 2 ** n))
                for language in LANGUAGES:
                    if n > 3 and odd:
                        self.check_untold(n, 1, language, pairs)
                        if language != "all":
                            self.check_untold(n, 1, language, pairs[1:])
                        continue
                    for left_out in range(4):
                        untold = left_out + (language == "all")
                        kept = pairs[left_out:]
                        for v in range(2 ** n):
                            known = v > left_out or (v == 0 and language != "all") or untold < 2
                            known = known or (untold == 2 and n > 3)
                            told = tells(n, 1, language, kept, state_of(n, (v,)))
                            self.assertEqual(told, state_of(n, (moves[v],)) if known else None, (n, language, ring, v))

    def test_two_untold_of_three_words(self):
        # The sign is told at level 0; behind the column 1 two columns of level 1 are not told.
        for low_ring, high_ring in itertools.product(([3, 5], [3, 5, 6]), ([1, 2], [1, 2, 4], [7])):
            low, high = turned_columns(3, low_ring), turned_columns(3, high_ring)
            levels = tuple((state_of(3, (v, 0)), state_of(3, (low[v], 0))) for v in range(8) if v != 1)
            behind = tuple((state_of(3, (1, v)), state_of(3, (low[1], high[v]))) for v in range(2, 8))
            whole = dict(enumerate(high))
            sign = len(low_ring) % 2 == 0
            moves = [moves for moves in ways_to_finish(3, {v: whole[v] for v in range(2, 8)}, int(sign))][0]
            for language in ("sums", "all"):
                pairs = behind + levels
                for v in range(8):
                    expected = state_of(3, (low[1], moves[v]))
                    self.assertEqual(tells(3, 2, language, pairs, state_of(3, (1, v))), expected)
                # With two columns more untold at level 0 no sign is told anywhere.
                for v in (0, 1):
                    self.assertIsNone(tells(3, 2, language, behind + levels[3:], state_of(3, (1, v))))
                for v in (2, 7):
                    self.assertEqual(tells(3, 2, language, behind + levels[3:], behind[v - 2][0]), behind[v - 2][1])

    def test_sign_told_at_the_higher_level_alone(self):
        # Behind the column 1 all is told, behind the column 2 all but two, and at level 0 these two.
        for ring in ([1, 2], [1, 2, 4]):
            moves = turned_columns(3, ring)
            whole = tuple((state_of(3, (1, v)), state_of(3, (1, moves[v]))) for v in range(8))
            part = tuple((state_of(3, (2, v)), state_of(3, (2, v))) for v in range(2, 8))
            ends = (0, 1) if len(ring) == 3 else (1, 0)
            for pairs in (whole + part, part + whole, whole[1:] + part, part[::-1] + whole[:-1]):
                for language, untold in (("sums", 5), ("all", 6)):
                    for v in (0, 1):
                        self.assertEqual(tells(3, 2, language, pairs, state_of(3, (2, v))), state_of(3, (2, ends[v])))
                        self.assertIsNone(tells(3, 2, language, pairs, state_of(3, (3, v))))
                    rest = 20160 ** (5 if language == "sums" else 6)
                    self.assertEqual(finish_count(3, 2, language, pairs), factorial(untold) // 2 * rest)
                    self.assertIsNotNone(self.check_finished(3, 2, language, pairs))
            for language in ("sums", "all"):
                # With two untold behind both no sign is told.
                self.assertIsNone(tells(3, 2, language, part + whole[2:], state_of(3, (2, 0))))

    def test_three_words_of_bits_take_either_sign(self):
        for ring in ([3, 5], [3, 5, 6]):
            moves = turned_columns(3, ring)
            pairs = tuple((state_of(3, (v,)), state_of(3, (moves[v],))) for v in range(1, 8))
            for left_out in range(4):
                for language in ("bits", "sums"):
                    count = finish_count(3, 1, language, pairs[left_out:])
                    self.assertEqual(count, factorial(left_out))
                    table = self.check_finished(3, 1, language, pairs[left_out:])
                    if left_out < 2:
                        self.assertEqual([led(3, 1, table, first) for first, _ in pairs], [second for _, second in pairs])

    def test_two_untold_columns_of_bits(self):
        # Three words have both ways, more words the even one.
        for n in (3, 4):
            moves = turned_columns(n, [5, 6, 3])
            goings = [(v, moves[v]) for v in range(3, 2 ** n)]
            pairs = tuple((state_of(n, (v, v)), state_of(n, (image, image))) for v, image in goings)
            state, image = (state_of(n, (1, 5)), state_of(n, (1, moves[5])))
            self.assertEqual(tells(n, 2, "bits", pairs, state), None if n == 3 else image)
            self.assertEqual(tells(n, 2, "bits", pairs, state_of(n, (3, 5))), state_of(n, (moves[3], moves[5])))
            more = pairs + ((state_of(n, (1, 1)), state_of(n, (1, 1))),)
            self.assertEqual(tells(n, 2, "bits", more, state_of(n, (2, 0))), state_of(n, (2, 0)))

    def test_doubles(self):
        pairs = (((1, 2, 4), (2, 1, 7)),)
        for shift in range(4):
            state = tuple(word * 2 ** shift % 8 for word in (1, 2, 4))
            image = tuple(word * 2 ** shift % 8 for word in (2, 1, 7))
            self.assertEqual(tells(3, 3, "sums", pairs, state), image)
            self.assertEqual(tells(3, 3, "all", pairs, state), image if shift == 0 else None)
        # What is told of a double tells of its half as far as it goes.
        pairs = (((2, 4, 0), (0, 2, 4)),)
        self.assertEqual(tells(3, 3, "sums", pairs, (4, 0, 0)), (0, 4, 0))
        self.assertIsNone(tells(3, 3, "sums", pairs, (1, 2, 0)))
        self.assertIsNone(tells(3, 3, "sums", pairs, (2, 0, 0)))

    def test_noughts(self):
        for n, w in ((3, 1), (4, 2), (5, 7), (8, 64)):
            noughts = (0,) * n
            for pairs in ((), (((1,) * n, (1,) + noughts[1:]),)):
                self.assertEqual(tells(n, w, "bits", pairs, noughts), noughts)
                self.assertEqual(tells(n, w, "sums", pairs, noughts), noughts)
                self.assertIsNone(tells(n, w, "all", pairs, noughts))

    def test_wide_words(self):
        for n in (3, 5, 8):
            draw = random.Random(f"wide {n}")
            for language in LANGUAGES:
                pairs, program = led_pairs(draw, n, 64, language, 25)
                for first, second in pairs[::4]:
                    double = tuple(2 * word % 2 ** 64 for word in first)
                    image = tuple(2 * word % 2 ** 64 for word in second)
                    expected = image if language in ("bits", "sums") or double == first else None
                    if double not in dict(pairs):
                        self.assertEqual(tells(n, 64, language, pairs, double), expected)
                for _ in range(5):
                    state = drawn_state(draw, n, 64)
                    found = tells(n, 64, language, pairs, state)
                    self.assertIn(found, (None, image_by(64, program, state)))
                    # The one to which it is led always fits; another one just if several do.
                    self.assertIsNone(pair_paper(n, 64, language, pairs + ((state, image_by(64, program, state)),)))

    def test_told_at_the_highest_level(self):
        # All states of one low part of 63 bits, but for one or two.
        low = (2 ** 62 + 1, 5, 2 ** 40)
        moves = turned_columns(3, [1, 4, 6])
        pairs = tuple(
            (tuple(word + (v >> i & 1) * 2 ** 63 for i, word in enumerate(low)),
             tuple(word + (moves[v] >> i & 1) * 2 ** 63 for i, word in enumerate(low))) for v in range(8)
        )
        for language in ("sums", "all"):
            self.assertEqual(tells(3, 64, language, pairs[1:], pairs[0][0]), pairs[0][1])
            self.assertIsNone(tells(3, 64, language, pairs[2:], pairs[0][0]))
            self.assertEqual(tells(3, 64, language, pairs[2:], pairs[2][0]), pairs[2][1])

    def test_several_seconds_where_none_is_told(self):
        # Two that fit, told from each other by two finished tables.
        for n, w in ((3, 1), (4, 1), (3, 2), (4, 2)):
            draw = random.Random(f"several {n} {w}")
            for language in LANGUAGES:
                pairs, program = led_pairs(draw, n, w, language, 4)
                for state in draw.sample(all_states(n, w), 4):
                    if tells(n, w, language, pairs, state) is not None:
                        continue
                    image = image_by(w, program, state)
                    others = [
                        other for other in all_states(n, w)
                        if other != image and pair_paper(n, w, language, pairs + ((state, other),)) is None
                    ]
                    for second in (image, others[0]):
                        table = self.check_finished(n, w, language, pairs + ((state, second),))
                        self.assertEqual(led(n, w, table, state), second)

    def test_unfit_just_where_there_is_a_paper(self):
        for n, w in ((3, 1), (4, 1), (3, 3), (4, 64)):
            draw = random.Random(f"unfit {n} {w}")
            for language in LANGUAGES:
                pairs, _ = led_pairs(draw, n, w, language, 6)
                for spoilt in spoilt_pairs(draw, n, w, pairs):
                    for other in LANGUAGES:
                        if pair_paper(n, w, other, spoilt) is not None:
                            self.check_untold(n, w, other, spoilt)
                        else:
                            self.assertEqual(tells(n, w, other, spoilt, spoilt[0][0]), spoilt[0][1])

    def test_arguments_stay_and_calls_are_equal(self):
        for n, w in ((3, 1), (3, 2), (4, 1)):
            draw = random.Random(f"equal finishing {n} {w}")
            for language in LANGUAGES:
                pairs, _ = led_pairs(draw, n, w, language, 5)
                before = repr(pairs)
                table = finished(n, w, language, pairs)
                kept = repr(table)
                count = finish_count(n, w, language, pairs)
                states = all_states(n, w)[:9]
                told = [tells(n, w, language, pairs, state) for state in states]
                self.assertEqual(finished(pairs=copy.deepcopy(pairs), language=language, w=w, n=n), table)
                self.assertEqual(finish_count(pairs=copy.deepcopy(pairs), language=language, w=w, n=n), count)
                again = [tells(state=state, pairs=pairs, language=language, w=w, n=n) for state in states]
                self.assertEqual((again, repr(pairs), repr(table)), (told, before, kept))
                barred = with_second(pairs, 0, pairs[1][1])
                papers = []
                for _ in range(2):
                    with self.assertRaises(Barred) as caught:
                        finished(n=n, w=w, language=language, pairs=copy.deepcopy(barred))
                    papers.append(caught.exception.paper)
                self.assertEqual(papers[0], papers[1])


if __name__ == "__main__":
    unittest.main()

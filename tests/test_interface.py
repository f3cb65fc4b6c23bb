"""How calls are told and answered; begin; what is kept and what is not."""

import unittest

from recalltyres.store import NotBuilt, answers
from tests.lines import (
    BEGIN, COMMON, NARROW, SAMPLES, TOP, answered, back, behind, claim, days, flat, lift, move, oldest, put,
    rack, recall, send, stocked,
)

LONG_LINE = flat([
    BEGIN, rack(2), rack(1), put(0, 1, 2, 3, 4, 5), put(0, 1, 9, 3, 8, 5), put(0, 1, 1, 1, 1, 1), move(1, 1),
    send(0, 3), days(7), claim(0), COMMON, NARROW, back(0), recall(0, 1), oldest(0, 1, 2), lift(0, 1),
    oldest(0, 1, 2), claim(1), COMMON, NARROW,
])


class BeforeBegin(unittest.TestCase):
    def test_each_call_alone(self):
        for call in SAMPLES[1:]:
            with self.subTest(call=call):
                self.assertEqual(answers(call), [1, -11])

    def test_all_calls_one_behind_another(self):
        self.assertEqual(answers(flat(SAMPLES[1:] * 2)), [1, -11] * 50)

    def test_wrong_arguments_are_not_looked_at(self):
        calls = [
            rack(0), put(TOP), put(TOP, TOP, TOP, TOP, TOP, TOP, TOP, TOP, TOP), move(TOP, TOP), send(TOP, TOP),
            oldest(TOP, TOP, TOP), days(0), claim(TOP), back(TOP), recall(TOP, TOP), lift(TOP, TOP),
        ]
        self.assertEqual(answered(calls), [[-11]] * len(calls))

    def test_nothing_of_it_stays(self):
        calls = [rack(5), days(9), recall(0, 1), BEGIN, days(1), lift(0, 1), put(0, 1, 1, 1, 1, 1), rack(1)]
        self.assertEqual(answered(calls), [[-11], [-11], [-11], [0], [1], [-2], [-2], [0]])


class BeginInTheMiddle(unittest.TestCase):
    def test_everything_is_gone(self):
        ahead = stocked(1, [(1, 2, 3, 4, 5)])
        ahead += [send(0, 1), claim(0), recall(0, 1), days(5), BEGIN]
        calls = [
            claim(0), send(0, 1), back(0), move(0, 0), put(0, 1, 2, 3, 4, 5), COMMON, NARROW, lift(0, 1), days(1),
        ]
        self.assertEqual(behind(ahead, calls), [[-2]] * 5 + [[-6], [-6], [-2], [1]])

    def test_numbers_begin_anew(self):
        ahead = stocked(9, [(1, 2, 3, 4, 5)] * 3) + [BEGIN]
        self.assertEqual(behind(ahead, [rack(2), put(0, 1, 1, 1, 1, 1), rack(3)]), [[0], [0], [1]])

    def test_limits_begin_anew(self):
        full = stocked(60, [(1, 1, 1, 1, 1)] * 60) + [rack(1)] * 7 + [oldest(0, 1, 0)] * 20
        full += [claim(t) for t in range(20)] + [recall(1, v) for v in range(10)]
        self.assertEqual(answered(full), answered(full + full)[len(full):])

    def test_begin_answers_0_each_time(self):
        self.assertEqual(answers([0, 0, 0]), [1, 0, 1, 0, 1, 0])


class TheList(unittest.TestCase):
    def test_how_many_numbers_stand_ahead_of_each_answer(self):
        self.assertEqual(answers(LONG_LINE), [
            1, 0, 1, 0, 1, 1, 1, 0, 1, 1, 1, -28, 1, 0,
            1, 0, 1, 7, 1, 1, 11, 5, 0, 1, 1, 2, 2, 3, 3, 4, 4, 5, 3, 1, 2, 1, 2, 3, 7, 2, 0, 1, 1, -6, 1, 0,
            2, 1, 1, 1, 2, 7, 3, 0, 1, 2, 3, 4, 5, 3, 0, 1, 2,
        ])

    def test_a_row_of_any_length_is_passed_over_whole(self):
        for count in range(9):
            with self.subTest(count=count):
                told = behind([BEGIN, rack(9)], [put(0, *[1] * count), days(3)])
                self.assertEqual(told, [[0] if count == 5 else [-22], [3]])

    def test_what_is_handed_in_is_as_it_was(self):
        line = list(LONG_LINE)
        answers(line)
        self.assertEqual(line, LONG_LINE)

    def test_the_same_list_twice(self):
        first = answers(LONG_LINE)
        self.assertEqual(answers(LONG_LINE), first)

    def test_nothing_is_kept_from_one_time_to_the_next(self):
        answers(LONG_LINE)
        self.assertEqual(answers([1, 3, 11, 6, 1]), [1, -11, 1, -11, 1, -11])

    def test_what_was_given_back_may_be_changed(self):
        first = answers(LONG_LINE)
        first.clear()
        self.assertEqual(len(answers(LONG_LINE)), 63)

    def test_whole_numbers_alone_are_given_back(self):
        told = answers(LONG_LINE)
        self.assertIs(type(told), list)
        self.assertEqual({type(number) for number in told}, {int})

    def test_the_longest_line(self):
        calls = [BEGIN] + [put(0, TOP, TOP, TOP, TOP, TOP, TOP, TOP, TOP)] * 399
        self.assertEqual(answers(flat(calls)), [1, 0] + [1, -2] * 399)

    def test_greatest_arguments(self):
        ahead = stocked(1, [(1, 1, 1, 1, 1)])
        calls = [
            rack(TOP), put(TOP, 1, 1, 1, 1, 1), put(0, 1, 1, 1, 1, TOP), move(TOP, 0), move(0, TOP), send(TOP, 0),
            send(0, TOP), oldest(TOP, 1, 0), oldest(0, TOP, 0), oldest(0, 1, TOP), days(TOP), claim(TOP), back(TOP),
            recall(TOP, 1), recall(0, TOP), lift(TOP, 1), lift(0, TOP),
        ]
        self.assertEqual(behind(ahead, calls), [
            [-22], [-2], [-22], [-2], [-2], [-2], [-22], [-22], [-22], [-22], [-22], [-2], [-2], [-22], [-22], [-22],
            [-22],
        ])


class NotBuiltYet(unittest.TestCase):
    def test_behind_a_begin_it_is_said_and_no_answer_is_made_up(self):
        for call in SAMPLES[13:]:
            with self.subTest(call=call):
                with self.assertRaises(NotBuilt):
                    answers([0] + call)


if __name__ == "__main__":
    unittest.main()

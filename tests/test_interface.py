"""How calls are told and answered; begin; what is kept and what is not."""

import unittest

from recalltyres.store import answers
from tests.lines import (
    BEGIN, BLOCKED, COMMON, LEFT, NARROW, NEXT, SAMPLES, STATE, SUMS, TOP, TWO, WAYS, answered, back, behind, claim,
    days, flat, having, lift, look, move, oldest, put, rack, rate, recall, send, sentto, stock, stocked, who, worst,
)

LONG_LINE = flat([
    BEGIN, rack(2), rack(1), put(0, 1, 2, 3, 4, 5), put(0, 1, 9, 3, 8, 5), put(0, 1, 1, 1, 1, 1), move(1, 1),
    send(0, 3), days(7), claim(0), COMMON, NARROW, back(0), recall(0, 1), oldest(0, 1, 2), lift(0, 1),
    oldest(0, 1, 2), claim(1), COMMON, NARROW, TWO, rate(0, 1), worst(2), recall(4, 5), recall(3, 8), who(4, 5), LEFT,
    BLOCKED, stock(0), stock(1), having(4, 5), sentto(2), NEXT, put(0, 6, 6, 6, 6, 6), NEXT, look(0), look(1), SUMS,
    STATE,
])


class Unchangeable(list):
    """A list that can only be read."""

    def refuse(self, *arguments, **named):
        raise AssertionError("what is handed in is changed")

    append = clear = extend = insert = pop = remove = reverse = sort = refuse
    __setitem__ = __delitem__ = __iadd__ = __imul__ = refuse


class BeforeBegin(unittest.TestCase):
    def test_each_call_alone(self):
        for call in SAMPLES[1:]:
            with self.subTest(call=call):
                self.assertEqual(answers(call), [1, -11])

    def test_all_calls_one_behind_another(self):
        self.assertEqual(answers(flat(SAMPLES[1:] * 2)), [1, -11] * 50)

    def test_wrong_arguments_are_not_looked_at(self):
        calls = [
            rack(0), put(TOP), put(TOP, TOP, TOP, TOP, TOP, TOP, TOP, TOP, TOP), move(TOP, TOP), send(TOP, TOP),
            oldest(TOP, TOP, TOP), days(0), claim(TOP), back(TOP), recall(TOP, TOP), lift(TOP, TOP), rate(TOP, TOP),
            worst(0), who(TOP, TOP), stock(TOP), having(TOP, TOP), sentto(TOP), look(TOP),
        ]
        self.assertEqual(answered(calls), [[-11]] * len(calls))

    def test_nothing_of_it_stays(self):
        calls = [rack(5), days(9), recall(0, 1), BEGIN, days(1), lift(0, 1), put(0, 1, 1, 1, 1, 1), rack(1)]
        self.assertEqual(answered(calls), [[-11], [-11], [-11], [0], [1], [-2], [-2], [0]])


class RightBehindABegin(unittest.TestCase):
    CALLS = [
        COMMON, NARROW, TWO, rate(0, 1), worst(1), who(0, 1), LEFT, BLOCKED, stock(0), having(0, 1), sentto(0), NEXT,
        look(0), SUMS, STATE,
    ]
    TOLD = [
        [-6], [-6], [-6], [0, 0, 0], [-6], [0], [0], [0], [-2], [0], [0], [-6], [-2], [0, 0, 0, 0, 0], [0, 0, 0, 0],
    ]

    def test_each_call_when_there_is_nothing(self):
        for call, told in zip(self.CALLS, self.TOLD):
            with self.subTest(call=call):
                self.assertEqual(answers([0] + call), [1, 0, len(told)] + told)

    def test_one_behind_another(self):
        self.assertEqual(behind([BEGIN], self.CALLS * 2), self.TOLD * 2)

    def test_behind_a_second_begin(self):
        self.assertEqual(behind(WAYS + [BEGIN], self.CALLS), self.TOLD)


class BeginInTheMiddle(unittest.TestCase):
    def test_everything_is_gone(self):
        ahead = stocked(1, [(1, 2, 3, 4, 5)])
        ahead += [send(0, 1), claim(0), recall(0, 1), days(5), BEGIN]
        calls = [
            claim(0), send(0, 1), back(0), move(0, 0), put(0, 1, 2, 3, 4, 5), COMMON, NARROW, lift(0, 1), days(1),
        ]
        self.assertEqual(behind(ahead, calls), [[-2]] * 5 + [[-6], [-6], [-2], [1]])

    def test_numbers_begin_anew(self):
        ahead = stocked(9, [(1, 2, 3, 4, 5)] * 3) + [BEGIN]
        self.assertEqual(behind(ahead, [rack(2), put(0, 1, 1, 1, 1, 1), rack(3)]), [[0], [0], [1]])

    def test_limits_begin_anew(self):
        full = stocked(60, [(1, 1, 1, 1, 1)] * 60) + [rack(1)] * 7 + [oldest(0, 1, 0)] * 20
        full += [claim(t) for t in range(20)] + [recall(1, v) for v in range(10)]
        self.assertEqual(answered(full), answered(full + full)[len(full):])

    def test_begin_answers_0_each_time(self):
        self.assertEqual(answers([0, 0, 0]), [1, 0, 1, 0, 1, 0])


class TheList(unittest.TestCase):
    def test_how_many_numbers_stand_ahead_of_each_answer(self):
        self.assertEqual(answers(LONG_LINE), [
            1, 0, 1, 0, 1, 1, 1, 0, 1, 1, 1, -28, 1, 0,
            1, 0, 1, 7, 1, 1, 11, 5, 0, 1, 1, 2, 2, 3, 3, 4, 4, 5, 3, 1, 2, 1, 2, 3, 7, 2, 0, 1, 1, -6, 1, 0,
            2, 1, 1, 1, 2, 7, 3, 0, 1, 2, 3, 4, 5, 3, 0, 1, 2,
            5, 2, 0, 1, 0, 1, 3, 2, 2, 2, 4, 0, 1, 2, 2, 2, 1, 0, 2, 1, 0, 2, 1, 2, 2, 1, 1, 1, 0, 1, 2, 1, 1,
            3, 2, 0, 1, 2, 1, 1, 1, -6, 1, 2, 3, 2, 0, 6,
            10, 2, 3, 0, 1, 1, 1, 2, 3, 4, 5, 10, 1, 2, 7, 1, 1, 1, 9, 3, 8, 5, 5, 0, 1, 1, 1, 2, 4, 7, 2, 3, 2,
        ])

    def test_a_row_of_any_length_is_passed_over_whole(self):
        for count in range(9):
            with self.subTest(count=count):
                told = behind([BEGIN, rack(9)], [put(0, *[1] * count), days(3)])
                self.assertEqual(told, [[0] if count == 5 else [-22], [3]])

    def test_what_is_handed_in_is_as_it_was(self):
        line = list(LONG_LINE)
        answers(line)
        self.assertEqual(line, LONG_LINE)

    def test_it_is_not_changed_for_a_while_either(self):
        self.assertEqual(answers(Unchangeable(LONG_LINE)), answers(LONG_LINE))

    def test_the_same_list_twice(self):
        first = answers(LONG_LINE)
        self.assertEqual(answers(LONG_LINE), first)

    def test_nothing_is_kept_from_one_time_to_the_next(self):
        answers(LONG_LINE)
        self.assertEqual(answers([1, 3, 11, 6, 1]), [1, -11, 1, -11, 1, -11])

    def test_what_was_given_back_may_be_changed(self):
        first = answers(LONG_LINE)
        kept = list(first)
        first.clear()
        self.assertEqual(answers(LONG_LINE), kept)

    def test_whole_numbers_alone_are_given_back(self):
        told = answers(LONG_LINE)
        self.assertIs(type(told), list)
        self.assertEqual({type(number) for number in told}, {int})

    def test_the_longest_line(self):
        calls = [BEGIN] + [put(0, TOP, TOP, TOP, TOP, TOP, TOP, TOP, TOP)] * 399
        self.assertEqual(answers(flat(calls)), [1, 0] + [1, -2] * 399)

    def test_greatest_arguments(self):
        ahead = stocked(1, [(1, 1, 1, 1, 1)])
        calls = [
            rack(TOP), put(TOP, 1, 1, 1, 1, 1), put(0, 1, 1, 1, 1, TOP), move(TOP, 0), move(0, TOP), send(TOP, 0),
            send(0, TOP), oldest(TOP, 1, 0), oldest(0, TOP, 0), oldest(0, 1, TOP), days(TOP), claim(TOP), back(TOP),
            recall(TOP, 1), recall(0, TOP), lift(TOP, 1), lift(0, TOP), rate(TOP, 1), rate(0, TOP), worst(TOP),
            who(TOP, 1), who(0, TOP), stock(TOP), having(TOP, 1), having(0, TOP), sentto(TOP), look(TOP),
        ]
        self.assertEqual(behind(ahead, calls), [
            [-22], [-2], [-22], [-2], [-2], [-2], [-22], [-22], [-22], [-22], [-22], [-2], [-2], [-22], [-22], [-22],
            [-22], [-22], [-22], [-6], [-22], [-22], [-2], [-22], [-22], [-22], [-2],
        ])


class LongestLines(unittest.TestCase):
    # Twenty claims that share one mark, so that many pairs of marks explain them.
    MARKS = [(1, n, n, n, n) for n in range(60)]
    AHEAD = stocked(60, MARKS) + [send(n, n % 10) for n in range(30)] + [claim(n) for n in range(20)] + [recall(0, 1)]

    def check(self, call, told):
        count = 400 - len(self.AHEAD)
        self.assertEqual(behind(self.AHEAD, [call] * count), [told] * count)

    def test_four_hundred_calls_with_each_asking_call(self):
        numbers = list(range(60))
        self.check(COMMON, [1, 0, 1])
        self.check(NARROW, [0, 1, 60])
        self.check(TWO, [60, 0, 1, 0, 1])
        self.check(rate(0, 1), [20, 30, 60])
        self.check(worst(1), [1, 0, 1, 1])
        self.check(worst(2), [0, 1, 20, 30])
        self.check(who(0, 1), [10, *range(10)])
        self.check(LEFT, [30] + numbers[:30])
        self.check(BLOCKED, [30] + numbers[30:])
        self.check(stock(0), [30] + numbers[30:])
        self.check(having(0, 1), [60] + numbers)
        self.check(sentto(9), [3, 9, 19, 29])
        self.check(NEXT, [-6])
        self.check(look(59), [0, 0, 0, 0, 1, 1, 59, 59, 59, 59])
        self.check(SUMS, [0, 30, 30, 0, 20])
        self.check(STATE, [0, 1, 60, 1])

    def test_four_hundred_of_each_call_before_a_begin(self):
        for call in SAMPLES[1:]:
            with self.subTest(call=call):
                self.assertEqual(answers(call * 400), [1, -11] * 400)


if __name__ == "__main__":
    unittest.main()

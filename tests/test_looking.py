"""Point 5: look, sums, state."""

import unittest

from tests.lines import (
    BEGIN, STATE, SUMS, TOP, WAYS, answered, back, behind, claim, days, lift, look, move, oldest, put, rack, recall,
    send, stocked,
)

MARKS = (1, 2, 3, 4, 5)


class Look(unittest.TestCase):
    AHEAD = [BEGIN, rack(3), rack(3), days(7), put(1, *MARKS), days(1), put(0, 9, 8, 7, 6, 0)]

    def test_in_a_rack(self):
        self.assertEqual(behind(self.AHEAD, [look(0), look(1)]),
                         [[0, 1, 7, 0, 0, 1, 2, 3, 4, 5], [0, 0, 8, 0, 0, 9, 8, 7, 6, 0]])

    def test_days_change_nothing_of_it(self):
        self.assertEqual(behind(self.AHEAD, [days(100), look(0)]), [[108], [0, 1, 7, 0, 0, *MARKS]])
        self.assertEqual(behind(self.AHEAD, [send(0, 3), days(100), look(0)]), [[1], [108], [1, 3, 8, 0, 0, *MARKS]])

    def test_moved_it_has_its_new_rack_and_the_day_it_came(self):
        self.assertEqual(behind(self.AHEAD, [days(5), move(0, 0), look(0)]), [[13], [1], [0, 0, 7, 0, 0, *MARKS]])

    def test_sent(self):
        self.assertEqual(behind(self.AHEAD, [days(5), send(0, 9), look(0)]), [[13], [1], [1, 9, 13, 0, 0, *MARKS]])
        self.assertEqual(behind(self.AHEAD, [oldest(0, 1, 0), look(0)]), [[0, 1], [1, 0, 8, 0, 0, *MARKS]])

    def test_come_back_it_has_the_customer_and_the_day_it_was_sent(self):
        calls = [days(5), send(0, 9), days(6), back(0), days(7), look(0)]
        self.assertEqual(behind(self.AHEAD, calls), [[13], [1], [19], [9, 6], [26], [2, 9, 13, 0, 0, *MARKS]])

    def test_claimed(self):
        calls = [send(0, 2), claim(0), look(0), back(0), look(0), look(1)]
        self.assertEqual(behind(self.AHEAD, calls), [
            [1], [1], [1, 2, 8, 1, 0, *MARKS], [2, 0], [2, 2, 8, 1, 0, *MARKS], [0, 0, 8, 0, 0, 9, 8, 7, 6, 0],
        ])

    def test_recalled_in_each_way(self):
        calls = [
            recall(0, 1), look(0), lift(0, 1), look(0), send(0, 2), recall(4, 5), look(0), back(0), look(0),
            lift(4, 5), look(0), look(1),
        ]
        self.assertEqual(behind(self.AHEAD, calls), [
            [0, 1], [0, 1, 7, 0, 1, *MARKS], [0], [0, 1, 7, 0, 0, *MARKS], [1], [1, 0], [1, 2, 8, 0, 1, *MARKS],
            [2, 0], [2, 2, 8, 0, 1, *MARKS], [0], [2, 2, 8, 0, 0, *MARKS], [0, 0, 8, 0, 0, 9, 8, 7, 6, 0],
        ])

    def test_recalled_by_a_mark_ahead_of_its_coming(self):
        self.assertEqual(behind([BEGIN, rack(1), recall(3, 4), put(0, *MARKS)], [look(0)]), [[0, 0, 0, 0, 1, *MARKS]])

    def test_the_value_at_another_place_recalls_nothing(self):
        self.assertEqual(behind(self.AHEAD, [recall(1, 1), look(0)]), [[0, 0], [0, 1, 7, 0, 0, *MARKS]])

    def test_tyres_in_all_ways(self):
        self.assertEqual(behind(WAYS, [look(t) for t in range(11)]), [
            [0, 0, 3, 0, 0, 1, 2, 10, 50, 40], [0, 0, 3, 0, 1, 7, 2, 11, 50, 30],
            [1, 9, 7, 0, 0, 1, 2, 12, 50, 20], [1, 0, 7, 0, 1, 7, 2, 13, 50, 20],
            [1, 4, 7, 1, 0, 1, 2, 14, 50, 20], [1, 9, 7, 1, 1, 7, 2, 15, 50, 20],
            [2, 4, 7, 0, 0, 1, 2, 16, 50, 20], [2, 2, 7, 0, 1, 7, 2, 17, 50, 20],
            [2, 9, 7, 1, 0, 1, 2, 18, 50, 20], [2, 3, 7, 1, 1, 7, 2, 19, 50, 20],
            [0, 1, 3, 0, 0, 1, 2, 20, 50, 40],
        ])

    def test_no_such_tyre(self):
        self.assertEqual(behind([BEGIN, rack(1)], [look(0), look(TOP)]), [[-2]] * 2)
        self.assertEqual(behind(self.AHEAD, [look(2), look(TOP), put(0, *MARKS), look(2)]),
                         [[-2], [-2], [2], [0, 0, 8, 0, 0, *MARKS]])

    def test_the_sixtieth(self):
        ahead = stocked(60, [MARKS] * 59 + [(0, 99, 0, 99, 0)])
        self.assertEqual(behind(ahead, [look(59), look(60)]), [[0, 0, 0, 0, 0, 0, 99, 0, 99, 0], [-2]])


class SumsAndState(unittest.TestCase):
    def check(self, steps):
        """Each step is a call, what it answers, what state and what sums answer behind it."""
        calls = []
        told = []
        for call, answer, state, sums in steps:
            calls += [call, STATE, SUMS]
            told += [answer, state, [0] + sums]
        self.assertEqual(answered(calls), told)

    def test_nothing_is_there(self):
        self.check([(BEGIN, [0], [0, 0, 0, 0], [0, 0, 0, 0])])

    def test_behind_each_call_that_changes_something(self):
        self.check([
            (BEGIN, [0], [0, 0, 0, 0], [0, 0, 0, 0]),
            (rack(2), [0], [0, 1, 0, 0], [0, 0, 0, 0]),
            (rack(2), [1], [0, 2, 0, 0], [0, 0, 0, 0]),
            (put(0, *MARKS), [0], [0, 2, 1, 0], [1, 0, 0, 0]),
            (put(1, *MARKS), [1], [0, 2, 2, 0], [2, 0, 0, 0]),
            (put(1, 6, 6, 6, 6, 6), [2], [0, 2, 3, 0], [3, 0, 0, 0]),
            (move(1, 0), [1], [0, 2, 3, 0], [3, 0, 0, 0]),
            (days(1000), [1000], [1000, 2, 3, 0], [3, 0, 0, 0]),
            (send(1, 4), [0], [1000, 2, 3, 0], [2, 1, 0, 0]),
            (oldest(0, 1, 5), [0, 0], [1000, 2, 3, 0], [1, 2, 0, 0]),
            (days(1), [1001], [1001, 2, 3, 0], [1, 2, 0, 0]),
            (claim(1), [1], [1001, 2, 3, 0], [1, 2, 0, 1]),
            (back(1), [4, 1], [1001, 2, 3, 0], [1, 1, 1, 1]),
            (back(0), [5, 1], [1001, 2, 3, 0], [1, 0, 2, 1]),
            (claim(0), [2], [1001, 2, 3, 0], [1, 0, 2, 2]),
            (recall(0, 1), [0, 0], [1001, 2, 3, 1], [1, 0, 2, 2]),
            (recall(0, 6), [0, 1], [1001, 2, 3, 2], [1, 0, 2, 2]),
            (lift(0, 1), [1], [1001, 2, 3, 1], [1, 0, 2, 2]),
            (lift(0, 6), [0], [1001, 2, 3, 0], [1, 0, 2, 2]),
            (BEGIN, [0], [0, 0, 0, 0], [0, 0, 0, 0]),
        ])

    def test_tyres_in_all_ways(self):
        self.assertEqual(behind(WAYS, [SUMS, STATE]), [[0, 3, 4, 4, 4], [18, 3, 11, 1]])

    def test_all_that_there_can_be(self):
        ahead = stocked(60, [MARKS] * 60) + [rack(1)] * 7 + [oldest(0, 1, 3)] * 60 + [claim(t) for t in range(20)]
        ahead += [recall(2, v) for v in range(10)] + [days(1000)] * 3
        self.assertEqual(behind(ahead, [SUMS, STATE]), [[0, 0, 60, 0, 20], [3000, 8, 60, 10]])
        ahead += [back(t) for t in range(60)]
        self.assertEqual(behind(ahead, [SUMS, STATE]), [[0, 0, 0, 60, 20], [3000, 8, 60, 10]])


if __name__ == "__main__":
    unittest.main()

"""Point 2: send, oldest, claim, back, recall, lift."""

import unittest

from tests.lines import (
    BEGIN, COMMON, TOP, back, behind, claim, days, lift, move, oldest, put, rack, recall, send, stocked,
)

MARKS = (1, 2, 3, 4, 5)


class Send(unittest.TestCase):
    AHEAD = [BEGIN, rack(3), rack(3), put(0, *MARKS), put(1, *MARKS), put(1, 6, 7, 8, 9, 10)]

    def test_it_answers_in_which_rack_the_tyre_was(self):
        self.assertEqual(behind(self.AHEAD, [send(1, 0), send(0, 9), send(2, 9)]), [[1], [0], [1]])

    def test_no_such_tyre(self):
        self.assertEqual(behind(self.AHEAD, [send(3, 0), send(TOP, 0)]), [[-2], [-2]])

    def test_customers_at_the_edge(self):
        self.assertEqual(behind(self.AHEAD, [send(0, 10), send(0, TOP), send(0, 9)]), [[-22], [-22], [0]])

    def test_not_in_a_rack(self):
        self.assertEqual(behind(self.AHEAD, [send(0, 0), send(0, 1), back(0), send(0, 1)]),
                         [[0], [-16], [0, 0], [-16]])

    def test_recalled(self):
        calls = [recall(4, 5), send(0, 0), send(1, 0), send(2, 0), lift(4, 5), send(0, 0)]
        self.assertEqual(behind(self.AHEAD, calls), [[0, 2], [-13], [-13], [1], [0], [0]])

    def test_recalled_by_one_mark_of_several(self):
        calls = [recall(0, 1), recall(2, 3), lift(0, 1), send(0, 0), lift(2, 3), send(0, 0)]
        self.assertEqual(behind(self.AHEAD, calls), [[0, 2], [0, 2], [1], [-13], [0], [0]])

    def test_two_recalled_marks_of_one_place(self):
        calls = [recall(0, 1), recall(0, 6), send(0, 0), send(2, 0), lift(0, 6), send(2, 0), send(0, 0)]
        self.assertEqual(behind(self.AHEAD, calls), [[0, 2], [0, 1], [-13], [-13], [1], [1], [-13]])

    def test_the_value_at_another_place_is_another_mark(self):
        self.assertEqual(behind(self.AHEAD, [recall(1, 1), recall(0, 2), send(0, 0)]), [[0, 0], [0, 0], [0]])

    def test_a_later_tyre_with_the_mark_is_recalled_too(self):
        calls = [recall(0, 77), put(0, 77, 1, 1, 1, 1), send(3, 0)]
        self.assertEqual(behind(self.AHEAD, calls), [[0, 0], [3], [-13]])

    def test_the_first_told_refusal(self):
        ahead = self.AHEAD + [send(0, 0), recall(0, 1)]
        self.assertEqual(behind(ahead, [send(3, 10), send(0, 10), send(0, 0), send(1, 10), send(1, 9)]),
                         [[-2], [-22], [-16], [-22], [-13]])

    def test_a_refused_one_stays_in_its_rack(self):
        calls = [send(1, 10), recall(0, 1), send(1, 0), back(1), claim(1), move(1, 0), lift(0, 1), send(1, 3)]
        self.assertEqual(behind(self.AHEAD, calls), [[-22], [0, 2], [-13], [-16], [-16], [1], [0], [0]])

    def test_a_refused_one_keeps_customer_and_day(self):
        calls = [send(0, 4), days(3), send(0, 5), days(2), back(0)]
        self.assertEqual(behind(self.AHEAD, calls), [[0], [3], [-16], [5], [4, 5]])


class Oldest(unittest.TestCase):
    AHEAD = [
        BEGIN, rack(5), rack(5),
        put(0, 1, 0, 0, 0, 30), put(1, 1, 0, 0, 0, 20), put(0, 2, 0, 0, 0, 10), put(1, 1, 0, 0, 0, 20),
        put(0, 1, 0, 0, 0, 25),
    ]

    def test_the_lesser_week_first_and_of_alike_weeks_the_lesser_number(self):
        calls = [oldest(0, 1, 0)] * 5
        self.assertEqual(behind(self.AHEAD, calls), [[1, 1], [3, 1], [4, 0], [0, 0], [-6]])

    def test_by_each_place(self):
        for place in range(5):
            with self.subTest(place=place):
                other = [50, 50, 50, 50, 50]
                meant = [50, 50, 50, 50, 50]
                meant[place] = 60
                self.assertEqual(behind(stocked(2, [other, meant]), [oldest(place, 60, 0)] * 2), [[1, 0], [-6]])

    def test_by_the_week(self):
        self.assertEqual(behind(self.AHEAD, [oldest(4, 20, 3), oldest(4, 20, 3), oldest(4, 20, 3)]),
                         [[1, 1], [3, 1], [-6]])

    def test_the_value_at_another_place_does_not_count(self):
        self.assertEqual(behind(self.AHEAD, [oldest(1, 1, 0), oldest(4, 1, 0), oldest(3, 30, 0)]), [[-6]] * 3)

    def test_week_0_and_week_99(self):
        ahead = stocked(3, [(1, 1, 1, 1, 99), (1, 1, 1, 1, 0), (1, 1, 1, 1, 9)])
        self.assertEqual(behind(ahead, [oldest(0, 1, 0)] * 3), [[1, 0], [2, 0], [0, 0]])

    def test_it_answers_the_rack_to_which_the_tyre_was_moved(self):
        self.assertEqual(behind(self.AHEAD, [move(1, 0), oldest(0, 1, 0)]), [[1], [1, 0]])

    def test_it_is_sent_today_to_that_customer(self):
        calls = [days(4), oldest(0, 2, 7), days(6), back(2)]
        self.assertEqual(behind(self.AHEAD, calls), [[4], [2, 0], [10], [7, 6]])

    def test_recalled_ones_are_passed_over(self):
        calls = [recall(4, 20), oldest(0, 1, 0), oldest(0, 1, 0), oldest(0, 1, 0), lift(4, 20), oldest(0, 1, 0)]
        self.assertEqual(behind(self.AHEAD, calls), [[0, 2], [4, 0], [0, 0], [-6], [0], [1, 1]])

    def test_with_the_asked_mark_recalled(self):
        self.assertEqual(behind(self.AHEAD, [recall(0, 1), oldest(0, 1, 0), oldest(4, 10, 0)]),
                         [[0, 4], [-6], [2, 0]])

    def test_ones_come_back_are_passed_over(self):
        self.assertEqual(behind(self.AHEAD, [send(2, 0), back(2), oldest(0, 2, 0)]), [[0], [0, 0], [-6]])

    def test_out_of_range(self):
        calls = [oldest(5, 1, 0), oldest(TOP, 1, 0), oldest(0, 100, 0), oldest(0, TOP, 0), oldest(0, 1, 10)]
        self.assertEqual(behind(self.AHEAD, calls), [[-22]] * 5)

    def test_edges_in_range(self):
        ahead = stocked(2, [(0, 0, 0, 0, 99), (0, 0, 0, 0, 0)])
        self.assertEqual(behind(ahead, [oldest(4, 99, 9), back(0), oldest(0, 0, 0), back(1)]),
                         [[0, 0], [9, 0], [1, 0], [0, 0]])

    def test_out_of_range_is_told_ahead_of_none(self):
        self.assertEqual(behind([BEGIN], [oldest(0, 1, 10), oldest(5, 1, 9), oldest(0, 100, 9), oldest(0, 99, 9)]),
                         [[-22], [-22], [-22], [-6]])

    def test_a_refused_one_sends_nothing(self):
        calls = [oldest(0, 2, 10), oldest(0, 3, 0), recall(0, 2), oldest(0, 2, 0), back(2), move(2, 1)]
        self.assertEqual(behind(self.AHEAD, calls), [[-22], [-6], [0, 1], [-6], [-16], [0]])


class Claim(unittest.TestCase):
    def test_how_many_are(self):
        ahead = stocked(3, [MARKS] * 3) + [oldest(0, 1, 0)] * 3
        self.assertEqual(behind(ahead, [claim(2), claim(0), claim(1)]), [[1], [2], [3]])

    def test_no_such_tyre(self):
        self.assertEqual(behind(stocked(3, [MARKS]), [claim(1), claim(TOP)]), [[-2], [-2]])

    def test_in_a_rack(self):
        self.assertEqual(behind(stocked(3, [MARKS]), [claim(0), COMMON]), [[-16], [-6]])

    def test_claimed_already(self):
        ahead = stocked(3, [MARKS]) + [send(0, 0), claim(0)]
        self.assertEqual(behind(ahead, [claim(0), back(0), claim(0)]), [[-17], [0, 0], [-17]])

    def test_one_come_back(self):
        ahead = stocked(3, [MARKS]) + [send(0, 0), back(0)]
        self.assertEqual(behind(ahead, [claim(0), claim(0)]), [[1], [-17]])

    def test_one_recalled(self):
        ahead = stocked(3, [MARKS]) + [send(0, 0), recall(0, 1)]
        self.assertEqual(behind(ahead, [claim(0)]), [[1]])

    def test_twenty_and_one_more(self):
        ahead = stocked(60, [MARKS] * 22) + [oldest(0, 1, 0)] * 21
        calls = [claim(t) for t in range(21)] + [claim(20)]
        self.assertEqual(behind(ahead, calls), [[n] for n in range(1, 21)] + [[-28], [-28]])

    def test_twenty_ever_also_when_they_come_back(self):
        ahead = stocked(60, [MARKS] * 22) + [oldest(0, 1, 0)] * 21
        ahead += [claim(t) for t in range(20)] + [back(t) for t in range(20)]
        self.assertEqual(behind(ahead, [claim(20)]), [[-28]])

    def test_the_first_told_refusal(self):
        ahead = stocked(60, [MARKS] * 22) + [oldest(0, 1, 0)] * 21 + [claim(t) for t in range(20)]
        self.assertEqual(behind(ahead, [claim(22), claim(21), claim(19), claim(20)]), [[-2], [-16], [-17], [-28]])

    def test_a_refused_one_is_not_claimed(self):
        ahead = stocked(3, [(1, 1, 1, 1, 1), (2, 2, 2, 2, 2)]) + [send(0, 0), claim(0), claim(1), claim(0)]
        self.assertEqual(behind(ahead, [COMMON, send(1, 0), claim(1), COMMON]),
                         [[5, 0, 1, 1, 1, 2, 1, 3, 1, 4, 1], [0], [2], [0]])


class Back(unittest.TestCase):
    AHEAD = stocked(3, [MARKS] * 3)

    def test_customer_and_days(self):
        calls = [days(10), send(0, 4), send(1, 9), days(1), back(1), days(999), back(0)]
        self.assertEqual(behind(self.AHEAD, calls), [[10], [0], [0], [11], [9, 1], [1010], [4, 1000]])

    def test_the_same_day(self):
        self.assertEqual(behind(self.AHEAD, [days(5), send(0, 0), back(0)]), [[5], [0], [0, 0]])

    def test_no_such_tyre(self):
        self.assertEqual(behind(self.AHEAD, [back(3), back(TOP)]), [[-2], [-2]])

    def test_not_sent(self):
        self.assertEqual(behind(self.AHEAD, [back(0), send(0, 0), back(0), back(0)]), [[-16], [0], [0, 0], [-16]])

    def test_claimed_and_recalled_it_comes_back_and_stays_claimed(self):
        calls = [send(0, 6), claim(0), recall(0, 1), days(2), back(0), claim(0), recall(1, 2), send(0, 1), COMMON]
        self.assertEqual(behind(self.AHEAD, calls), [
            [0], [1], [1, 2], [2], [6, 2], [-17], [0, 2], [-16], [5, 0, 1, 1, 2, 2, 3, 3, 4, 4, 5],
        ])

    def test_a_refused_one_stays_as_it_was(self):
        self.assertEqual(behind(self.AHEAD, [back(0), back(3), send(0, 1), claim(0)]), [[-16], [-2], [0], [1]])


class Recall(unittest.TestCase):
    AHEAD = stocked(9, [(1, 2, 3, 4, 5), (1, 2, 3, 4, 6), (1, 9, 3, 4, 5), (2, 1, 1, 1, 1)])

    def test_how_many_are_sent_and_how_many_in_racks(self):
        calls = [send(0, 1), send(1, 1), send(3, 1), back(1), recall(0, 1), recall(3, 4), recall(0, 2)]
        self.assertEqual(behind(self.AHEAD, calls), [[0], [0], [0], [1, 0], [1, 1], [1, 1], [1, 0]])

    def test_all_of_it_in_racks(self):
        self.assertEqual(behind(self.AHEAD, [recall(0, 1), oldest(0, 1, 0)]), [[0, 3], [-6]])

    def test_all_of_it_sent_or_come_back(self):
        calls = [send(0, 1), send(2, 1), back(2), recall(4, 5)]
        self.assertEqual(behind(self.AHEAD, calls), [[0], [0], [1, 0], [1, 0]])

    def test_a_mark_that_none_has(self):
        self.assertEqual(behind(self.AHEAD, [recall(0, 3), recall(4, 4), recall(1, 0)]), [[0, 0]] * 3)

    def test_recalled_in_two_ways_it_counts_in_both(self):
        self.assertEqual(behind(self.AHEAD, [recall(0, 1), recall(1, 9)]), [[0, 3], [0, 1]])

    def test_ranges_at_the_edges(self):
        calls = [recall(5, 0), recall(TOP, 0), recall(0, 100), recall(0, TOP), recall(4, 99), recall(0, 0)]
        self.assertEqual(behind(self.AHEAD, calls), [[-22]] * 4 + [[0, 0]] * 2)

    def test_recalled_already(self):
        self.assertEqual(behind(self.AHEAD, [recall(0, 1), recall(0, 1), recall(1, 1), recall(0, 2)]),
                         [[0, 3], [-17], [0, 1], [0, 1]])

    def test_ten_and_one_more_also_behind_a_lift(self):
        ahead = [BEGIN] + [recall(1, v) for v in range(10)]
        calls = [recall(2, 0), lift(1, 4), recall(2, 0), recall(1, 4), lift(2, 0), recall(1, 4), recall(2, 0)]
        self.assertEqual(behind(ahead, calls), [[-28], [9], [0, 0], [-28], [9], [0, 0], [-28]])

    def test_the_first_told_refusal(self):
        ahead = [BEGIN] + [recall(1, v) for v in range(10)]
        self.assertEqual(behind(ahead, [recall(5, 0), recall(1, 100), recall(1, 9), recall(1, 10)]),
                         [[-22], [-22], [-17], [-28]])

    def test_a_refused_one_recalls_nothing(self):
        ahead = self.AHEAD + [recall(1, v) for v in range(50, 60)]
        self.assertEqual(behind(ahead, [recall(0, 1), send(0, 0), lift(0, 1), lift(1, 50)]),
                         [[-28], [0], [-2], [9]])
        self.assertEqual(behind(self.AHEAD, [recall(0, 1), recall(0, 1), lift(0, 1), send(0, 0)]),
                         [[0, 3], [-17], [0], [0]])


class Lift(unittest.TestCase):
    AHEAD = stocked(9, [MARKS]) + [recall(0, 1), recall(1, 2), recall(1, 3)]

    def test_how_many_marks_are(self):
        self.assertEqual(behind(self.AHEAD, [lift(1, 2), lift(1, 3), lift(0, 1)]), [[2], [1], [0]])

    def test_not_recalled(self):
        calls = [lift(0, 2), lift(2, 1), lift(1, 1), lift(0, 1), lift(0, 1)]
        self.assertEqual(behind(self.AHEAD, calls), [[-2], [-2], [-2], [2], [-2]])

    def test_out_of_range_is_told_ahead_of_not_recalled(self):
        calls = [lift(5, 1), lift(TOP, 1), lift(0, 100), lift(0, TOP), lift(4, 99), lift(0, 0)]
        self.assertEqual(behind(self.AHEAD, calls), [[-22]] * 4 + [[-2]] * 2)

    def test_it_is_recalled_while_one_of_its_marks_is(self):
        calls = [lift(0, 1), send(0, 0), lift(1, 3), send(0, 0), lift(1, 2), send(0, 0)]
        self.assertEqual(behind(self.AHEAD, calls), [[2], [-13], [1], [-13], [0], [0]])

    def test_a_refused_one_lifts_nothing(self):
        calls = [lift(0, 2), lift(5, 1), recall(0, 1), send(0, 0), lift(0, 1)]
        self.assertEqual(behind(self.AHEAD, calls), [[-2], [-22], [-17], [-13], [2]])


if __name__ == "__main__":
    unittest.main()

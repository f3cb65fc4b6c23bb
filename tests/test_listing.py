"""Point 4: who, left, blocked, stock, with, sentto, next."""

import unittest

from tests.lines import (
    BEGIN, BLOCKED, LEFT, NEXT, TOP, WAYS, back, behind, claim, days, having, lift, move, oldest, put, rack, recall,
    send, sentto, stock, stocked, who,
)

MARKS = (1, 2, 3, 4, 5)


class Who(unittest.TestCase):
    AHEAD = stocked(9, [(1, 2, 3, 4, 5), (1, 2, 3, 4, 6), (1, 7, 3, 4, 6), (1, 7, 3, 4, 6), (8, 1, 1, 1, 1)])

    def test_customers_rising_and_each_once(self):
        calls = [send(0, 9), send(1, 0), send(2, 9), send(3, 4), who(0, 1), who(1, 2), who(1, 7), who(4, 5), who(4, 6)]
        self.assertEqual(behind(self.AHEAD, calls)[4:], [[3, 0, 4, 9], [2, 0, 9], [2, 4, 9], [1, 9], [3, 0, 4, 9]])

    def test_nobody(self):
        self.assertEqual(behind([BEGIN], [who(0, 1)]), [[0]])
        self.assertEqual(behind(self.AHEAD + [send(4, 3)], [who(0, 1), who(0, 3), who(1, 8)]), [[0]] * 3)

    def test_all_ten_customers(self):
        ahead = stocked(20, [MARKS] * 20) + [send(t, 9 - t % 10) for t in range(20)]
        self.assertEqual(behind(ahead, [who(2, 3)]), [[10, 0, 1, 2, 3, 4, 5, 6, 7, 8, 9]])

    def test_one_that_has_come_back_is_with_nobody(self):
        calls = [send(0, 5), send(1, 5), send(2, 6), back(2), who(0, 1), back(0), who(0, 1), who(4, 5), back(1)]
        self.assertEqual(behind(self.AHEAD, calls + [who(0, 1)])[3:],
                         [[6, 0], [1, 5], [5, 0], [1, 5], [0], [5, 0], [0]])

    def test_a_rack_is_not_taken_for_a_customer(self):
        ahead = [BEGIN, rack(2), rack(2), put(1, *MARKS), put(0, *MARKS)]
        self.assertEqual(behind(ahead, [who(0, 1), send(1, 7), who(0, 1)]), [[0], [0], [1, 7]])

    def test_claimed_and_recalled_ones_count(self):
        calls = [send(0, 3), claim(0), who(0, 1), recall(0, 1), who(0, 1), send(1, 8), who(0, 1)]
        self.assertEqual(behind(self.AHEAD, calls), [[0], [1], [1, 3], [1, 3], [1, 3], [-13], [1, 3]])

    def test_tyres_in_all_ways(self):
        self.assertEqual(behind(WAYS, [who(0, 7), who(0, 1), who(1, 2), who(4, 20), who(4, 40), who(2, 16)]),
                         [[2, 0, 9], [2, 4, 9], [3, 0, 4, 9], [3, 0, 4, 9], [0], [0]])

    def test_the_value_at_another_place_does_not_count(self):
        self.assertEqual(behind(self.AHEAD + [send(0, 3)], [who(1, 1), who(0, 2), who(4, 1)]), [[0]] * 3)

    def test_out_of_range(self):
        calls = [who(5, 0), who(TOP, 0), who(0, 100), who(0, TOP), who(TOP, TOP), who(4, 99)]
        self.assertEqual(behind([BEGIN], calls), [[-22]] * 5 + [[0]])
        ahead = stocked(1, [(0, 0, 0, 0, 99)]) + [send(0, 0)]
        self.assertEqual(behind(ahead, calls + [who(0, 0)]), [[-22]] * 5 + [[1, 0]] * 2)


class Left(unittest.TestCase):
    AHEAD = stocked(9, [(1, 2, 3, 4, 5), (1, 2, 3, 4, 6), (1, 7, 3, 4, 6), (8, 1, 1, 1, 1)])

    def test_sent_and_recalled(self):
        calls = [send(2, 1), send(0, 1), send(3, 1), recall(0, 1), LEFT, recall(0, 8), LEFT, lift(0, 1), LEFT]
        self.assertEqual(behind(self.AHEAD, calls)[4:], [[2, 0, 2], [1, 0], [3, 0, 2, 3], [1], [1, 3]])

    def test_nothing(self):
        self.assertEqual(behind([BEGIN], [LEFT, BLOCKED]), [[0], [0]])
        self.assertEqual(behind([BEGIN, recall(0, 1)], [LEFT, BLOCKED]), [[0], [0]])
        self.assertEqual(behind(self.AHEAD, [LEFT, send(0, 0), LEFT, BLOCKED]), [[0], [0], [0], [0]])

    def test_all_of_it_in_racks(self):
        self.assertEqual(behind(self.AHEAD, [recall(0, 1), LEFT, BLOCKED]), [[0, 3], [0], [3, 0, 1, 2]])

    def test_all_of_it_sent(self):
        ahead = self.AHEAD + [send(0, 0), send(1, 1), send(2, 2)]
        self.assertEqual(behind(ahead, [recall(0, 1), LEFT, BLOCKED]), [[3, 0], [3, 0, 1, 2], [0]])

    def test_one_come_back_claimed_and_recalled_is_neither(self):
        ahead = self.AHEAD + [send(0, 0), claim(0), recall(0, 1)]
        self.assertEqual(behind(ahead, [LEFT, back(0), LEFT, BLOCKED]), [[1, 0], [0, 0], [0], [2, 1, 2]])

    def test_recalled_by_two_marks_it_stands_once(self):
        ahead = self.AHEAD + [send(0, 0), recall(0, 1), recall(1, 2), recall(4, 5)]
        self.assertEqual(behind(ahead, [LEFT, BLOCKED, lift(0, 1), LEFT, BLOCKED]),
                         [[1, 0], [2, 1, 2], [2], [1, 0], [1, 1]])

    def test_the_value_at_another_place_does_not_count(self):
        ahead = self.AHEAD + [send(0, 0), recall(1, 1)]
        self.assertEqual(behind(ahead, [LEFT, BLOCKED]), [[0], [1, 3]])

    def test_tyres_in_all_ways(self):
        self.assertEqual(behind(WAYS, [LEFT, BLOCKED, recall(1, 2), LEFT, BLOCKED]),
                         [[2, 3, 5], [1, 1], [4, 3], [4, 2, 3, 4, 5], [3, 0, 1, 10]])

    def test_how_many_recall_tells(self):
        ahead = self.AHEAD + [send(0, 0), send(3, 0)]
        self.assertEqual(behind(ahead, [recall(3, 4), LEFT, BLOCKED]), [[1, 2], [1, 0], [2, 1, 2]])


class Blocked(unittest.TestCase):
    AHEAD = [BEGIN, rack(3), rack(3), put(1, 1, 2, 3, 4, 5), put(0, 1, 2, 3, 4, 6), put(1, 9, 2, 3, 4, 6)]

    def test_in_racks_and_recalled(self):
        calls = [recall(0, 1), BLOCKED, recall(4, 6), BLOCKED, lift(0, 1), BLOCKED, lift(4, 6), BLOCKED]
        self.assertEqual(behind(self.AHEAD, calls),
                         [[0, 2], [2, 0, 1], [0, 2], [3, 0, 1, 2], [1], [2, 1, 2], [0], [0]])

    def test_a_move_leaves_it_blocked(self):
        self.assertEqual(behind(self.AHEAD, [recall(0, 1), move(0, 0), BLOCKED]), [[0, 2], [1], [2, 0, 1]])

    def test_sent_ones_and_ones_come_back_are_not(self):
        calls = [send(0, 0), send(1, 0), back(1), recall(1, 2), BLOCKED, LEFT]
        self.assertEqual(behind(self.AHEAD, calls), [[1], [0], [0, 0], [1, 1], [1, 2], [1, 0]])

    def test_one_put_later_is_blocked_too(self):
        self.assertEqual(behind(self.AHEAD, [recall(0, 50), BLOCKED, put(0, 50, 1, 1, 1, 1), BLOCKED]),
                         [[0, 0], [0], [3], [1, 3]])

    def test_sixty(self):
        ahead = stocked(60, [MARKS] * 60) + [recall(4, 5)]
        self.assertEqual(behind(ahead, [BLOCKED, NEXT]), [[60] + list(range(60)), [-6]])


class Stock(unittest.TestCase):
    AHEAD = [BEGIN, rack(3), rack(2), rack(1), put(1, *MARKS), put(0, *MARKS), put(1, *MARKS)]

    def test_room_then_tyres(self):
        self.assertEqual(behind(self.AHEAD, [stock(0), stock(1), stock(2)]), [[2, 1], [0, 0, 2], [1]])

    def test_empty_and_full(self):
        self.assertEqual(behind([BEGIN, rack(60), rack(1)], [stock(0), stock(1)]), [[60], [1]])
        ahead = stocked(60, [MARKS] * 60)
        self.assertEqual(behind(ahead, [stock(0)]), [[0] + list(range(60))])

    def test_no_such_rack(self):
        self.assertEqual(behind([BEGIN], [stock(0)]), [[-2]])
        self.assertEqual(behind(self.AHEAD, [stock(3), stock(TOP)]), [[-2]] * 2)

    def test_moved_ones_stand_by_their_number(self):
        calls = [move(2, 0), move(0, 0), stock(0), stock(1), move(1, 1), stock(0), stock(1)]
        self.assertEqual(behind(self.AHEAD, calls), [[1], [1], [0, 0, 1, 2], [2], [0], [1, 0, 2], [1, 1]])

    def test_sent_ones_are_gone_and_stay_so(self):
        calls = [send(0, 1), stock(1), back(0), stock(1), stock(0), oldest(0, 1, 2), stock(0), stock(2)]
        self.assertEqual(behind(self.AHEAD, calls), [[1], [1, 2], [1, 0], [1, 2], [2, 1], [1, 0], [3], [1]])

    def test_a_customer_is_not_taken_for_a_rack(self):
        self.assertEqual(behind(self.AHEAD + [send(0, 2), send(2, 0)], [stock(2), stock(0)]), [[1], [2, 1]])

    def test_recalled_ones_stand_in_it(self):
        self.assertEqual(behind(self.AHEAD + [recall(0, 1)], [stock(1)]), [[0, 0, 2]])

    def test_a_refused_put_or_move_is_not_in_it(self):
        self.assertEqual(behind(self.AHEAD, [put(1, *MARKS), stock(1), move(1, 1), stock(1), stock(0)]),
                         [[-28], [0, 0, 2], [-28], [0, 0, 2], [2, 1]])

    def test_tyres_in_all_ways(self):
        self.assertEqual(behind(WAYS, [stock(0), stock(1), stock(2), stock(3)]), [[10, 0, 1], [1, 10], [1], [-2]])


class With(unittest.TestCase):
    AHEAD = stocked(9, [(1, 2, 3, 4, 5), (1, 2, 3, 4, 6), (8, 1, 1, 1, 5), (1, 7, 3, 4, 6)])

    def test_how_many_then_these_rising(self):
        calls = [having(0, 1), having(1, 2), having(4, 5), having(0, 8), having(4, 6)]
        self.assertEqual(behind(self.AHEAD, calls), [[3, 0, 1, 3], [2, 0, 1], [2, 0, 2], [1, 2], [2, 1, 3]])

    def test_none(self):
        self.assertEqual(behind([BEGIN], [having(0, 0)]), [[0]])
        self.assertEqual(behind(self.AHEAD, [having(0, 0), having(0, 99), having(2, 2)]), [[0]] * 3)

    def test_the_value_at_another_place_does_not_count(self):
        self.assertEqual(behind(self.AHEAD, [having(1, 1), having(3, 1), having(4, 1), having(0, 2)]),
                         [[1, 2], [1, 2], [0], [0]])

    def test_in_whatever_way_they_are(self):
        self.assertEqual(behind(WAYS, [having(1, 2), having(0, 7), having(0, 1), having(4, 40), having(2, 19)]), [
            [11] + list(range(11)), [5, 1, 3, 5, 7, 9], [6, 0, 2, 4, 6, 8, 10], [2, 0, 10], [1, 9],
        ])

    def test_sixty(self):
        self.assertEqual(behind(stocked(60, [MARKS] * 60), [having(4, 5)]), [[60] + list(range(60))])

    def test_out_of_range(self):
        calls = [having(5, 0), having(TOP, 0), having(0, 100), having(0, TOP), having(TOP, TOP)]
        self.assertEqual(behind([BEGIN], calls), [[-22]] * 5)
        self.assertEqual(behind(stocked(1, [(0, 0, 0, 0, 99)]), calls + [having(4, 99), having(0, 0)]),
                         [[-22]] * 5 + [[1, 0]] * 2)


class SentTo(unittest.TestCase):
    AHEAD = stocked(9, [MARKS, MARKS, MARKS, (8, 1, 1, 1, 1)])

    def test_how_many_then_these_rising(self):
        calls = [send(3, 9), send(1, 9), send(0, 0), sentto(9), sentto(0), sentto(5)]
        self.assertEqual(behind(self.AHEAD, calls)[3:], [[2, 1, 3], [1, 0], [0]])

    def test_customers_at_the_edge(self):
        calls = [sentto(0), sentto(9), sentto(10), sentto(TOP)]
        self.assertEqual(behind([BEGIN], calls), [[0], [0], [-22], [-22]])
        self.assertEqual(behind(self.AHEAD + [send(0, 9)], calls), [[0], [1, 0], [-22], [-22]])

    def test_ones_come_back_are_not_there(self):
        calls = [send(0, 4), send(1, 4), back(0), sentto(4), back(1), sentto(4)]
        self.assertEqual(behind(self.AHEAD, calls), [[0], [0], [4, 0], [1, 1], [4, 0], [0]])

    def test_a_rack_is_not_taken_for_a_customer(self):
        self.assertEqual(behind(self.AHEAD, [sentto(0), send(1, 0), sentto(0)]), [[0], [0], [1, 1]])

    def test_the_oldest_is_sent_there(self):
        self.assertEqual(behind(self.AHEAD, [oldest(0, 8, 6), sentto(6), oldest(0, 8, 6), sentto(6)]),
                         [[3, 0], [1, 3], [-6], [1, 3]])

    def test_a_refused_one_is_not_there(self):
        self.assertEqual(behind(self.AHEAD, [recall(0, 1), send(0, 6), sentto(6), send(3, 10), sentto(6)]),
                         [[0, 3], [-13], [0], [-22], [0]])

    def test_claimed_and_recalled_ones_are(self):
        calls = [send(0, 4), send(1, 4), claim(0), recall(0, 1), sentto(4)]
        self.assertEqual(behind(self.AHEAD, calls), [[0], [0], [1], [2, 1], [2, 0, 1]])

    def test_tyres_in_all_ways(self):
        self.assertEqual(behind(WAYS, [sentto(c) for c in range(11)]),
                         [[1, 3], [0], [0], [0], [1, 4], [0], [0], [0], [0], [2, 2, 5], [-22]])

    def test_sixty(self):
        ahead = stocked(60, [MARKS] * 60) + [oldest(0, 1, 7)] * 60
        self.assertEqual(behind(ahead, [sentto(7), who(0, 1)]), [[60] + list(range(60)), [1, 7]])


class Next(unittest.TestCase):
    AHEAD = [
        BEGIN, rack(5), rack(5),
        put(0, 1, 0, 0, 0, 30), put(1, 1, 0, 0, 0, 20), put(0, 2, 0, 0, 0, 25), put(0, 1, 0, 0, 0, 20),
    ]

    def test_number_rack_and_week(self):
        calls = [NEXT, send(1, 0), NEXT, send(3, 0), NEXT, send(2, 0), NEXT, send(0, 0), NEXT]
        self.assertEqual(behind(self.AHEAD, calls),
                         [[1, 1, 20], [1], [3, 0, 20], [0], [2, 0, 25], [0], [0, 0, 30], [0], [-6]])

    def test_none(self):
        self.assertEqual(behind([BEGIN], [NEXT]), [[-6]])
        self.assertEqual(behind([BEGIN, rack(3)], [NEXT]), [[-6]])
        self.assertEqual(behind(stocked(3, [MARKS]) + [send(0, 0), back(0)], [NEXT]), [[-6]])

    def test_all_in_racks_are_recalled(self):
        calls = [recall(0, 1), NEXT, recall(0, 2), NEXT, lift(0, 1), NEXT]
        self.assertEqual(behind(self.AHEAD, calls), [[0, 3], [2, 0, 25], [0, 1], [-6], [1], [1, 1, 20]])

    def test_recalled_by_the_week(self):
        self.assertEqual(behind(self.AHEAD, [recall(4, 20), NEXT]), [[0, 2], [2, 0, 25]])

    def test_weeks_alike(self):
        ahead = stocked(9, [(3, 1, 1, 1, 7), (2, 1, 1, 1, 7), (1, 1, 1, 1, 7)])
        self.assertEqual(behind(ahead, [NEXT, send(0, 0), NEXT, send(1, 0), NEXT]),
                         [[0, 0, 7], [0], [1, 0, 7], [0], [2, 0, 7]])

    def test_weeks_at_the_edges(self):
        ahead = stocked(3, [(1, 1, 1, 1, 99), (1, 1, 1, 1, 0), (1, 1, 1, 1, 9)])
        self.assertEqual(behind(ahead, [NEXT, send(1, 0), NEXT, send(2, 0), NEXT]),
                         [[1, 0, 0], [0], [2, 0, 9], [0], [0, 0, 99]])

    def test_the_week_counts_and_no_other_mark_or_day(self):
        ahead = stocked(3, [(0, 0, 0, 0, 9), (9, 9, 9, 9, 1)])
        self.assertEqual(behind(ahead, [NEXT]), [[1, 0, 1]])
        ahead = stocked(3, [(0, 0, 0, 0, 9)]) + [days(5), put(0, 9, 9, 9, 9, 1)]
        self.assertEqual(behind(ahead, [NEXT]), [[1, 0, 1]])

    def test_the_rack_to_which_it_was_moved(self):
        self.assertEqual(behind(self.AHEAD, [move(1, 0), NEXT]), [[1], [1, 0, 20]])

    def test_it_is_the_one_that_oldest_sends(self):
        ahead = stocked(9, [(1, 1, 1, 1, week) for week in (5, 3, 5, 0, 3)])
        self.assertEqual(behind(ahead, [NEXT, oldest(0, 1, 0)] * 5), [
            [3, 0, 0], [3, 0], [1, 0, 3], [1, 0], [4, 0, 3], [4, 0], [0, 0, 5], [0, 0], [2, 0, 5], [2, 0],
        ])

    def test_tyres_in_all_ways(self):
        self.assertEqual(behind(WAYS, [NEXT, lift(0, 7), NEXT]), [[0, 0, 40], [0], [1, 0, 30]])

    def test_asking_sends_nothing(self):
        self.assertEqual(behind(self.AHEAD, [NEXT, NEXT, stock(1), move(1, 0)]),
                         [[1, 1, 20], [1, 1, 20], [4, 1], [1]])


if __name__ == "__main__":
    unittest.main()

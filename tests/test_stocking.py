"""Point 1: rack, put, move, days."""

import unittest

from tests.lines import BEGIN, TOP, answered, back, behind, claim, days, move, oldest, put, rack, send, stocked

MARKS = (1, 2, 3, 4, 5)


class Rack(unittest.TestCase):
    def test_numbers_rise_from_0(self):
        self.assertEqual(behind([BEGIN], [rack(5), rack(5), rack(7)]), [[0], [1], [2]])

    def test_sizes_at_the_edges(self):
        self.assertEqual(behind([BEGIN], [rack(0), rack(1), rack(60), rack(61), rack(TOP)]),
                         [[-22], [0], [1], [-22], [-22]])

    def test_a_ninth(self):
        self.assertEqual(behind([BEGIN], [rack(1)] * 9), [[n] for n in range(8)] + [[-28]])

    def test_out_of_range_is_told_ahead_of_too_many(self):
        ahead = [BEGIN] + [rack(1)] * 8
        self.assertEqual(behind(ahead, [rack(0), rack(61), rack(60)]), [[-22], [-22], [-28]])

    def test_a_refused_one_is_not_there(self):
        self.assertEqual(behind([BEGIN], [rack(0), rack(61), put(0, *MARKS), rack(3)]), [[-22], [-22], [-2], [0]])
        ahead = [BEGIN] + [rack(1)] * 9
        self.assertEqual(behind(ahead, [put(8, *MARKS), put(7, *MARKS)]), [[-2], [0]])


class Put(unittest.TestCase):
    def test_numbers_rise_over_all_racks(self):
        calls = [put(1, *MARKS), put(0, *MARKS), put(1, *MARKS)]
        self.assertEqual(behind([BEGIN, rack(5), rack(5)], calls), [[0], [1], [2]])

    def test_no_such_rack(self):
        self.assertEqual(behind([BEGIN], [put(0, *MARKS)]), [[-2]])
        self.assertEqual(behind([BEGIN, rack(1)], [put(1, *MARKS), put(TOP, *MARKS)]), [[-2], [-2]])

    def test_none_to_eight_marks(self):
        for count in range(9):
            with self.subTest(count=count):
                self.assertEqual(behind([BEGIN, rack(5)], [put(0, *[7] * count)]), [[0] if count == 5 else [-22]])

    def test_values_at_the_edge_at_each_place(self):
        for place in range(5):
            for value, told in ((0, [0]), (99, [0]), (100, [-22]), (TOP, [-22])):
                with self.subTest(place=place, value=value):
                    marks = list(MARKS)
                    marks[place] = value
                    self.assertEqual(behind([BEGIN, rack(5)], [put(0, *marks)]), [told])

    def test_a_full_rack(self):
        ahead = [BEGIN, rack(2), rack(1)]
        calls = [put(0, *MARKS), put(0, *MARKS), put(0, *MARKS), put(1, *MARKS), put(1, *MARKS)]
        self.assertEqual(behind(ahead, calls), [[0], [1], [-28], [2], [-28]])

    def test_sixty_tyres_and_one_more(self):
        ahead = stocked(60, []) + [rack(60)]
        self.assertEqual(behind(ahead, [put(n % 2, *MARKS) for n in range(61)]), [[n] for n in range(60)] + [[-28]])

    def test_sixty_ever_also_when_all_are_sent(self):
        ahead = stocked(60, [MARKS] * 60) + [oldest(0, 1, 0)] * 60 + [back(t) for t in range(60)]
        self.assertEqual(behind(ahead, [put(0, *MARKS)]), [[-28]])

    def test_a_place_is_free_behind_a_send_and_stays_so_behind_a_return(self):
        ahead = stocked(1, [MARKS])
        calls = [put(0, *MARKS), send(0, 0), put(0, *MARKS), put(0, *MARKS), send(1, 0), back(1), put(0, *MARKS)]
        self.assertEqual(behind(ahead, calls), [[-28], [0], [1], [-28], [0], [0, 0], [2]])

    def test_a_customer_is_not_taken_for_a_rack(self):
        ahead = [BEGIN, rack(2), rack(1), put(0, *MARKS), put(0, *MARKS), send(0, 1), send(1, 1)]
        self.assertEqual(behind(ahead, [put(1, *MARKS), put(1, *MARKS)]), [[2], [-28]])

    def test_no_such_rack_is_told_ahead_of_marks(self):
        self.assertEqual(behind([BEGIN, rack(1)], [put(1), put(1, 100, 1, 1, 1, 1)]), [[-2], [-2]])

    def test_marks_are_told_ahead_of_too_many(self):
        ahead = stocked(1, [MARKS])
        self.assertEqual(behind(ahead, [put(0, 1, 2, 3, 4), put(0, 1, 2, 3, 4, 100)]), [[-22], [-22]])

    def test_no_such_rack_is_told_ahead_of_sixty(self):
        ahead = stocked(60, [MARKS] * 60)
        self.assertEqual(behind(ahead, [put(1, *MARKS), put(0, 1), put(0, *MARKS)]), [[-2], [-22], [-28]])

    def test_a_refused_one_is_not_there(self):
        ahead = stocked(1, [MARKS]) + [put(0, *MARKS), put(0, 1), put(1, *MARKS)]
        self.assertEqual(behind(ahead, [send(1, 0), rack(1), put(1, *MARKS)]), [[-2], [1], [1]])


class Move(unittest.TestCase):
    AHEAD = [BEGIN, rack(2), rack(1), put(0, *MARKS), put(0, *MARKS)]

    def test_it_answers_where_the_tyre_was(self):
        calls = [move(0, 1), move(0, 0), move(1, 1), send(1, 4), send(0, 4)]
        self.assertEqual(behind(self.AHEAD, calls), [[0], [1], [0], [1], [0]])

    def test_no_such_tyre_or_rack(self):
        calls = [move(2, 0), move(0, 2), move(TOP, 0), move(0, TOP), move(2, 2)]
        self.assertEqual(behind(self.AHEAD, calls), [[-2]] * 5)

    def test_not_in_a_rack(self):
        calls = [send(0, 1), move(0, 0), move(0, 1), back(0), move(0, 0), move(0, 1)]
        self.assertEqual(behind(self.AHEAD, calls), [[0], [-16], [-16], [1, 0], [-16], [-16]])

    def test_in_that_one_already(self):
        self.assertEqual(behind(self.AHEAD, [move(0, 0)]), [[-17]])

    def test_in_that_one_is_told_ahead_of_full(self):
        self.assertEqual(behind(self.AHEAD, [move(0, 1), move(0, 1), move(1, 1)]), [[0], [-17], [-28]])

    def test_no_such_rack_is_told_ahead_of_not_in_a_rack(self):
        self.assertEqual(behind(self.AHEAD, [send(0, 1), move(0, 2)]), [[0], [-2]])

    def test_not_in_a_rack_is_told_ahead_of_full(self):
        self.assertEqual(behind(self.AHEAD, [send(0, 0), move(1, 1), move(0, 1)]), [[0], [0], [-16]])

    def test_a_full_rack_leaves_the_tyre_where_it_was(self):
        calls = [move(0, 1), move(1, 1), move(1, 0), send(1, 0), send(0, 0)]
        self.assertEqual(behind(self.AHEAD, calls), [[0], [-28], [-17], [0], [1]])

    def test_the_room_moves_too(self):
        calls = [put(0, *MARKS), move(0, 1), put(1, *MARKS), put(0, *MARKS), put(0, *MARKS)]
        self.assertEqual(behind(self.AHEAD, calls), [[-28], [0], [-28], [2], [-28]])

    def test_a_recalled_one_may_be_moved(self):
        self.assertEqual(behind(self.AHEAD, [[9, 0, 1], move(0, 1)]), [[0, 2], [0]])


class Days(unittest.TestCase):
    def test_the_day_is_answered(self):
        self.assertEqual(behind([BEGIN], [days(1), days(1000), days(30)]), [[1], [1001], [1031]])

    def test_out_of_range(self):
        self.assertEqual(behind([BEGIN], [days(0), days(1001), days(TOP), days(1)]), [[-22], [-22], [-22], [1]])

    def test_many(self):
        self.assertEqual(answered([BEGIN] + [days(1000)] * 399)[-1], [399000])

    def test_other_calls_take_no_time(self):
        ahead = stocked(1, [MARKS]) + [send(0, 0), claim(0), back(0)]
        self.assertEqual(behind(ahead, [days(1)]), [[1]])


if __name__ == "__main__":
    unittest.main()

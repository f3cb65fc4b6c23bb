"""Point 3: rate and worst."""

import unittest

from tests.lines import (
    BEGIN, TOP, WAYS, back, behind, claim, claimed, days, lift, move, oldest, put, rack, rate, recall, send, stocked,
    worst,
)


def dispatched(tyres, out, claims):
    """The calls that put these tyres, send those of the numbers out, and claim some."""
    return stocked(60, tyres) + [send(t, 0) for t in out] + [claim(t) for t in claims]


def close_rates(first, second):
    """Sixty sent tyres, 19 of them claimed: one mark has a rate of 18 of 55, another one of 19 of 58."""
    tyres = []
    for number in range(60):
        marks = [5, 5, 5, 5, 5]
        marks[first] = 1 if number < 18 or 23 <= number else 2
        marks[second] = 1 if number < 58 else 2
        tyres.append(marks)
    return dispatched(tyres, range(60), range(19))


class Rate(unittest.TestCase):
    def test_claimed_sent_and_all(self):
        tyres = [(1, 2, 3, 4, 5), (1, 2, 3, 4, 6), (1, 2, 3, 9, 5), (1, 7, 3, 4, 5)]
        ahead = dispatched(tyres, [0, 1, 3], [0, 1])
        calls = [rate(0, 1), rate(1, 2), rate(2, 3), rate(3, 4), rate(3, 9), rate(4, 5), rate(4, 6), rate(1, 7)]
        self.assertEqual(behind(ahead, calls), [
            [2, 3, 4], [2, 2, 3], [2, 3, 4], [2, 3, 3], [0, 0, 1], [1, 2, 3], [1, 1, 1], [0, 1, 1],
        ])

    def test_of_nothing(self):
        self.assertEqual(behind([BEGIN], [rate(0, 0), rate(4, 99)]), [[0, 0, 0]] * 2)
        ahead = stocked(3, [(1, 2, 3, 4, 5), (1, 2, 3, 4, 6)])
        self.assertEqual(behind(ahead, [rate(0, 1), rate(0, 2), rate(4, 6)]), [[0, 0, 2], [0, 0, 0], [0, 0, 1]])
        self.assertEqual(behind(ahead + [send(0, 1)], [rate(0, 1), rate(4, 6)]), [[0, 1, 2], [0, 0, 1]])

    def test_tyres_that_have_come_back_were_sent(self):
        ahead = dispatched([(1, 2, 3, 4, 5)] * 4, [0, 1, 2], [0, 1])
        self.assertEqual(behind(ahead, [back(0), rate(0, 1), back(2), rate(0, 1)]),
                         [[0, 0], [2, 3, 4], [0, 0], [2, 3, 4]])

    def test_recalled_or_not(self):
        ahead = dispatched([(1, 2, 3, 4, 5)] * 3, [0, 1], [1])
        self.assertEqual(behind(ahead, [recall(0, 1), rate(0, 1), lift(0, 1), rate(0, 1)]),
                         [[2, 1], [1, 2, 3], [0], [1, 2, 3]])

    def test_tyres_in_all_ways(self):
        self.assertEqual(behind(WAYS, [rate(0, 1), rate(0, 7), rate(1, 2), rate(4, 20), rate(4, 40)]),
                         [[2, 4, 6], [2, 4, 5], [4, 8, 11], [4, 8, 8], [0, 0, 2]])

    def test_the_value_at_another_place_does_not_count(self):
        ahead = dispatched([(7, 1, 1, 1, 1), (2, 7, 7, 7, 7)], [0, 1], [0, 1])
        self.assertEqual(behind(ahead, [rate(0, 7), rate(1, 7), rate(4, 1), rate(0, 1)]),
                         [[1, 1, 1], [1, 1, 1], [1, 1, 1], [0, 0, 0]])

    def test_out_of_range(self):
        calls = [rate(5, 0), rate(TOP, 0), rate(0, 100), rate(0, TOP), rate(TOP, TOP)]
        self.assertEqual(behind([BEGIN], calls), [[-22]] * 5)
        self.assertEqual(behind(stocked(3, [(0, 0, 0, 0, 99)]), calls + [rate(4, 99), rate(0, 0)]),
                         [[-22]] * 5 + [[0, 0, 1]] * 2)

    def test_asking_changes_nothing(self):
        ahead = dispatched([(1, 2, 3, 4, 5)] * 3, [0, 1], [1])
        self.assertEqual(behind(ahead, [rate(0, 1), rate(0, 1), rate(0, 100), claim(0), rate(0, 1), oldest(0, 1, 0)]),
                         [[1, 2, 3], [1, 2, 3], [-22], [2], [2, 2, 3], [2, 0]])


class Worst(unittest.TestCase):
    def test_the_greatest_rate(self):
        tyres = [(1, 1, 1, 1, 1), (1, 1, 1, 1, 2), (1, 1, 1, 2, 2), (1, 2, 1, 2, 2)]
        ahead = dispatched(tyres, range(4), [3])
        self.assertEqual(behind(ahead, [worst(1), worst(2), worst(3), worst(4)]),
                         [[1, 2, 1, 1], [3, 2, 1, 2], [4, 2, 1, 3], [0, 1, 1, 4]])

    def test_n_at_the_edges(self):
        ahead = dispatched([(1, 2, 3, 4, 5)] * 4, [0, 1, 2], [0])
        calls = [worst(0), worst(1), worst(2), worst(3), worst(4), worst(60), worst(61), worst(TOP)]
        self.assertEqual(behind(ahead, calls), [[-22]] + [[0, 1, 1, 3]] * 3 + [[-6]] * 4)

    def test_nothing_was_sent(self):
        self.assertEqual(behind([BEGIN], [worst(1), worst(TOP), worst(0)]), [[-6], [-6], [-22]])
        self.assertEqual(behind(stocked(3, [(1, 2, 3, 4, 5)] * 3), [worst(1), worst(0)]), [[-6], [-22]])

    def test_sent_and_none_claimed(self):
        ahead = dispatched([(9, 2, 3, 4, 5), (8, 1, 3, 4, 5), (0, 0, 0, 0, 0)], [0, 1], [])
        self.assertEqual(behind(ahead, [worst(1), worst(2), worst(3)]), [[0, 8, 0, 1], [2, 3, 0, 2], [-6]])

    def test_all_sent_are_claimed(self):
        ahead = dispatched([(9, 2, 3, 4, 5), (8, 1, 3, 4, 5), (0, 0, 0, 0, 0)], [0, 1], [0, 1])
        self.assertEqual(behind(ahead, [worst(1), worst(2)]), [[0, 8, 1, 1], [2, 3, 2, 2]])

    def test_few_with_a_greater_rate_are_passed_over_when_n_is_greater(self):
        tyres = [(1, 1, 1, 1, 1), (2, 1, 1, 1, 1), (2, 1, 1, 1, 1), (2, 1, 1, 1, 1)]
        ahead = dispatched(tyres, range(4), [0, 3])
        self.assertEqual(behind(ahead, [worst(1), worst(2), worst(4)]), [[0, 1, 1, 1], [1, 1, 2, 4], [1, 1, 2, 4]])

    def test_the_rate_counts_and_not_how_many_are_claimed(self):
        tyres = [(1, 5, 5, 5, 5)] * 10 + [(2, 5, 5, 5, 5)] * 2
        ahead = dispatched(tyres, range(12), [0, 1, 2, 3, 4, 5, 10, 11])
        self.assertEqual(behind(ahead, [worst(1), worst(2), worst(3)]), [[0, 2, 2, 2], [0, 2, 2, 2], [1, 5, 8, 12]])

    def test_one_of_two_and_two_of_four_are_alike(self):
        tyres = [(1, 5, 5, 5, 5), (1, 5, 5, 5, 5)] + [(2, 5, 5, 5, 5)] * 4 + [(3, 5, 5, 5, 5)] * 2
        ahead = dispatched(tyres, range(8), [0, 2, 3])
        self.assertEqual(behind(ahead, [worst(1), worst(2), worst(3), worst(5)]),
                         [[0, 1, 1, 2], [0, 1, 1, 2], [0, 2, 2, 4], [1, 5, 3, 8]])
        tyres = [(2, 5, 5, 5, 5), (2, 5, 5, 5, 5)] + [(1, 5, 5, 5, 5)] * 4 + [(3, 5, 5, 5, 5)] * 2
        ahead = dispatched(tyres, range(8), [0, 2, 3])
        self.assertEqual(behind(ahead, [worst(1), worst(3)]), [[0, 1, 2, 4], [0, 1, 2, 4]])

    def test_alike_at_two_places(self):
        tyres = [(1, 7, 5, 5, 5), (2, 7, 5, 5, 5), (3, 4, 5, 5, 5), (4, 6, 5, 5, 5)]
        ahead = dispatched(tyres, range(4), [0, 1])
        self.assertEqual(behind(ahead, [worst(1), worst(2), worst(3)]), [[0, 1, 1, 1], [1, 7, 2, 2], [2, 5, 2, 4]])

    def test_rates_that_only_an_exact_comparing_tells_apart(self):
        self.assertEqual(behind(close_rates(0, 1), [rate(0, 1), rate(1, 1), worst(50)]),
                         [[18, 55, 55], [19, 58, 58], [1, 1, 19, 58]])
        self.assertEqual(behind(close_rates(3, 2), [worst(50), worst(59)]), [[2, 1, 19, 58], [0, 5, 19, 60]])
        tyres = [(1, 0, 0, 0, 0)] * 29 + [(2, 0, 0, 0, 0)] * 26
        ahead = dispatched(tyres, range(55), list(range(10)) + list(range(29, 38)))
        self.assertEqual(behind(ahead, [worst(1), worst(27)]), [[0, 2, 9, 26], [1, 0, 19, 55]])
        self.assertEqual(behind(ahead, [rate(0, 1)]), [[10, 29, 29]])

    def test_tyres_in_racks_do_not_count(self):
        ahead = dispatched([(1, 2, 3, 4, 5)] * 9 + [(8, 2, 3, 4, 5)] * 2, [0, 9, 10], [0, 10])
        self.assertEqual(behind(ahead, [worst(1), worst(2), worst(3), worst(4)]),
                         [[0, 1, 1, 1], [1, 2, 2, 3], [1, 2, 2, 3], [-6]])

    def test_tyres_that_have_come_back_count(self):
        ahead = dispatched([(1, 2, 3, 4, 5)] * 3, [0, 1, 2], [0]) + [back(0), back(1)]
        self.assertEqual(behind(ahead, [worst(3), worst(4), claim(1), worst(3)]),
                         [[0, 1, 1, 3], [-6], [2], [0, 1, 2, 3]])

    def test_recalled_ones_count(self):
        ahead = dispatched([(1, 2, 3, 4, 5), (6, 2, 3, 4, 5)], [0, 1], [1]) + [recall(0, 6), recall(1, 2)]
        self.assertEqual(behind(ahead, [worst(1), worst(2)]), [[0, 6, 1, 1], [1, 2, 1, 2]])

    def test_tyres_in_all_ways(self):
        self.assertEqual(behind(WAYS, [worst(1), worst(2), worst(4), worst(5), worst(8), worst(9)]), [
            [2, 14, 1, 1], [0, 1, 2, 4], [0, 1, 2, 4], [1, 2, 4, 8], [1, 2, 4, 8], [-6],
        ])

    def test_values_at_the_edge_and_the_last_place(self):
        tyres = [(0, 0, 0, 0, 99), (0, 0, 0, 0, 99), (0, 0, 0, 0, 0)]
        self.assertEqual(behind(dispatched(tyres, range(3), [0, 1]), [worst(1), worst(3)]),
                         [[4, 99, 2, 2], [0, 0, 2, 3]])

    def test_the_value_at_another_place_does_not_count(self):
        ahead = dispatched([(7, 1, 2, 3, 4), (1, 7, 5, 5, 5)], [0, 1], [0])
        self.assertEqual(behind(ahead, [worst(1), worst(2)]), [[0, 7, 1, 1], [-6]])

    def test_a_claim_changes_the_worst(self):
        ahead = dispatched([(1, 2, 3, 4, 5), (6, 2, 3, 4, 5), (6, 2, 3, 4, 5)], range(3), [])
        calls = [worst(1), claim(1), worst(1), claim(0), worst(1), claim(2), worst(1), worst(2)]
        self.assertEqual(behind(ahead, calls),
                         [[0, 1, 0, 1], [1], [0, 6, 1, 2], [2], [0, 1, 1, 1], [3], [0, 1, 1, 1], [0, 6, 2, 2]])

    def test_moves_and_days_change_nothing_of_it(self):
        ahead = claimed([(1, 2, 3, 4, 5), (1, 2, 3, 4, 6)], [0]) + [rack(5)]
        calls = [move(1, 1), worst(1), days(9), worst(1), put(1, 0, 0, 0, 0, 0), worst(1)]
        self.assertEqual(behind(ahead, calls), [[0], [0, 1, 1, 1], [9], [0, 1, 1, 1], [2], [0, 1, 1, 1]])

    def test_asking_changes_nothing(self):
        ahead = dispatched([(1, 2, 3, 4, 5)] * 3, [0, 1], [1])
        self.assertEqual(behind(ahead, [worst(2), worst(0), worst(3), worst(2), send(2, 0), worst(3)]),
                         [[0, 1, 1, 2], [-22], [-6], [0, 1, 1, 2], [0], [0, 1, 1, 3]])


if __name__ == "__main__":
    unittest.main()

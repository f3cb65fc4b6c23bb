"""Point 3: common and narrow."""

import unittest

from tests.lines import BEGIN, COMMON, NARROW, back, behind, claim, recall, send, stocked


def claimed(tyres, numbers):
    """The calls that put these tyres, then send and claim those with the numbers."""
    calls = stocked(60, tyres)
    for number in numbers:
        calls += [send(number, 0), claim(number)]
    return calls


class Common(unittest.TestCase):
    def test_none_is_claimed(self):
        self.assertEqual(behind([BEGIN], [COMMON]), [[-6]])
        self.assertEqual(behind(stocked(3, [(1, 2, 3, 4, 5)]) + [send(0, 0)], [COMMON]), [[-6]])

    def test_one_claim(self):
        ahead = claimed([(9, 0, 99, 9, 1)], [0])
        self.assertEqual(behind(ahead, [COMMON]), [[5, 0, 9, 1, 0, 2, 99, 3, 9, 4, 1]])

    def test_what_all_share(self):
        ahead = claimed([(9, 2, 3, 4, 5), (9, 7, 3, 1, 5), (9, 2, 8, 4, 5)], [2, 0, 1])
        self.assertEqual(behind(ahead, [COMMON]), [[2, 0, 9, 4, 5]])

    def test_what_the_first_two_share_and_the_last_has_not(self):
        ahead = claimed([(1, 2, 3, 4, 5), (1, 2, 3, 4, 5), (1, 2, 3, 4, 6)], [0, 1, 2])
        self.assertEqual(behind(ahead, [COMMON]), [[4, 0, 1, 1, 2, 2, 3, 3, 4]])

    def test_sharing_nothing(self):
        ahead = claimed([(1, 2, 3, 4, 5), (2, 3, 4, 5, 6)], [0, 1])
        self.assertEqual(behind(ahead, [COMMON]), [[0]])

    def test_each_two_share_and_all_do_not(self):
        ahead = claimed([(1, 2, 3, 0, 0), (1, 5, 4, 1, 1), (6, 2, 4, 2, 2)], [0, 1, 2])
        self.assertEqual(behind(ahead, [COMMON]), [[0]])

    def test_the_value_at_another_place_is_not_shared(self):
        ahead = claimed([(7, 1, 2, 3, 4), (5, 7, 2, 4, 3)], [0, 1])
        self.assertEqual(behind(ahead, [COMMON]), [[1, 2, 2]])

    def test_two_values_of_one_place_are_not_shared(self):
        ahead = claimed([(1, 1, 1, 1, 1), (2, 1, 1, 1, 1)], [0, 1])
        self.assertEqual(behind(ahead, [COMMON]), [[4, 1, 1, 2, 1, 3, 1, 4, 1]])

    def test_only_the_claimed_ones_count(self):
        ahead = claimed([(8, 8, 8, 8, 8), (1, 2, 3, 4, 5), (8, 8, 8, 8, 8)], [1]) + [send(2, 0)]
        self.assertEqual(behind(ahead, [COMMON]), [[5, 0, 1, 1, 2, 2, 3, 3, 4, 4, 5]])

    def test_ones_come_back_and_recalled_ones_count(self):
        ahead = claimed([(1, 2, 3, 4, 5), (1, 2, 9, 9, 9)], [0, 1]) + [back(0), recall(0, 1)]
        self.assertEqual(behind(ahead, [COMMON]), [[2, 0, 1, 1, 2]])

    def test_twenty_claims(self):
        ahead = claimed([(n, 50, n, n, 7) for n in range(20)], range(20))
        self.assertEqual(behind(ahead, [COMMON, NARROW]), [[2, 1, 50, 4, 7], [1, 50, 20]])


class Narrow(unittest.TestCase):
    def test_none_is_claimed(self):
        self.assertEqual(behind([BEGIN], [NARROW]), [[-6]])
        self.assertEqual(behind(stocked(3, [(1, 2, 3, 4, 5)]) + [send(0, 0)], [NARROW]), [[-6]])

    def test_none_is_shared(self):
        ahead = claimed([(1, 2, 3, 4, 5), (2, 3, 4, 5, 6)], [0, 1])
        self.assertEqual(behind(ahead, [NARROW]), [[-33]])

    def test_one_claim(self):
        ahead = claimed([(1, 2, 3, 4, 5), (1, 2, 0, 4, 5), (1, 2, 0, 0, 5)], [0])
        self.assertEqual(behind(ahead, [NARROW]), [[2, 3, 1]])

    def test_of_alike_ones_the_first(self):
        ahead = claimed([(1, 2, 3, 4, 5)], [0])
        self.assertEqual(behind(ahead, [NARROW]), [[0, 1, 1]])
        ahead = claimed([(9, 8, 7, 6, 5), (9, 8, 0, 6, 5), (9, 8, 7, 0, 5), (9, 0, 7, 6, 5)], [0])
        self.assertEqual(behind(ahead, [NARROW]), [[1, 8, 3]])

    def test_the_last_place(self):
        ahead = claimed([(1, 1, 1, 1, 1), (1, 1, 1, 1, 2)], [0])
        self.assertEqual(behind(ahead, [NARROW]), [[4, 1, 1]])

    def test_a_narrower_mark_that_not_all_have_does_not_count(self):
        tyres = [(1, 2, 3, 4, 5), (1, 2, 9, 8, 7), (1, 0, 0, 0, 0)]
        self.assertEqual(behind(claimed(tyres, [0, 1]), [NARROW]), [[1, 2, 2]])

    def test_tyres_count_in_whatever_way_they_are(self):
        tyres = [(1, 2, 3, 4, 5), (1, 6, 6, 6, 6), (7, 2, 6, 6, 6), (7, 7, 3, 6, 6), (7, 7, 7, 4, 6)]
        ahead = claimed(tyres, [0]) + [send(1, 0), send(2, 0), back(2), recall(3, 4)]
        self.assertEqual(behind(ahead, [NARROW]), [[4, 5, 1]])
        ahead = claimed(tyres + [(7, 7, 7, 7, 5), (7, 7, 7, 7, 5)], [0]) + [send(1, 0), send(2, 0), back(2)]
        self.assertEqual(behind(ahead, [NARROW]), [[0, 1, 2]])

    def test_the_value_at_another_place_does_not_count(self):
        ahead = claimed([(1, 2, 3, 4, 5), (2, 1, 1, 1, 1), (0, 2, 3, 4, 5)], [0])
        self.assertEqual(behind(ahead, [NARROW]), [[0, 1, 1]])

    def test_asking_changes_nothing(self):
        ahead = claimed([(1, 2, 3, 4, 5), (1, 2, 9, 8, 7), (1, 0, 0, 0, 0)], [0, 1])
        self.assertEqual(behind(ahead, [NARROW, COMMON, NARROW, COMMON, claim(0)]),
                         [[1, 2, 2], [2, 0, 1, 1, 2], [1, 2, 2], [2, 0, 1, 1, 2], [-17]])


if __name__ == "__main__":
    unittest.main()

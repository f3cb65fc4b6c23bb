"""Point 3: common, narrow, two."""

import unittest

from tests.lines import BEGIN, COMMON, NARROW, TWO, back, behind, claim, claimed, recall, send, stocked


class Common(unittest.TestCase):
    def test_none_is_claimed(self):
        self.assertEqual(behind([BEGIN], [COMMON]), [[-6]])
        self.assertEqual(behind(stocked(3, [(1, 2, 3, 4, 5)]) + [send(0, 0)], [COMMON]), [[-6]])

    def test_one_claim(self):
        ahead = claimed([(9, 0, 99, 9, 1)], [0])
        self.assertEqual(behind(ahead, [COMMON]), [[5, 0, 9, 1, 0, 2, 99, 3, 9, 4, 1]])

    def test_what_all_share(self):
        ahead = claimed([(9, 2, 3, 4, 5), (9, 7, 3, 1, 5), (9, 2, 8, 4, 5)], [2, 0, 1])
        self.assertEqual(behind(ahead, [COMMON]), [[2, 0, 9, 4, 5]])

    def test_what_the_first_two_share_and_the_last_has_not(self):
        ahead = claimed([(1, 2, 3, 4, 5), (1, 2, 3, 4, 5), (1, 2, 3, 4, 6)], [0, 1, 2])
        self.assertEqual(behind(ahead, [COMMON]), [[4, 0, 1, 1, 2, 2, 3, 3, 4]])

    def test_sharing_nothing(self):
        ahead = claimed([(1, 2, 3, 4, 5), (2, 3, 4, 5, 6)], [0, 1])
        self.assertEqual(behind(ahead, [COMMON]), [[0]])

    def test_each_two_share_and_all_do_not(self):
        ahead = claimed([(1, 2, 3, 0, 0), (1, 5, 4, 1, 1), (6, 2, 4, 2, 2)], [0, 1, 2])
        self.assertEqual(behind(ahead, [COMMON]), [[0]])

    def test_the_value_at_another_place_is_not_shared(self):
        ahead = claimed([(7, 1, 2, 3, 4), (5, 7, 2, 4, 3)], [0, 1])
        self.assertEqual(behind(ahead, [COMMON]), [[1, 2, 2]])

    def test_two_values_of_one_place_are_not_shared(self):
        ahead = claimed([(1, 1, 1, 1, 1), (2, 1, 1, 1, 1)], [0, 1])
        self.assertEqual(behind(ahead, [COMMON]), [[4, 1, 1, 2, 1, 3, 1, 4, 1]])

    def test_only_the_claimed_ones_count(self):
        ahead = claimed([(8, 8, 8, 8, 8), (1, 2, 3, 4, 5), (8, 8, 8, 8, 8)], [1]) + [send(2, 0)]
        self.assertEqual(behind(ahead, [COMMON]), [[5, 0, 1, 1, 2, 2, 3, 3, 4, 4, 5]])

    def test_ones_come_back_and_recalled_ones_count(self):
        ahead = claimed([(1, 2, 3, 4, 5), (1, 2, 9, 9, 9)], [0, 1]) + [back(0), recall(0, 1)]
        self.assertEqual(behind(ahead, [COMMON]), [[2, 0, 1, 1, 2]])

    def test_twenty_claims(self):
        ahead = claimed([(n, 50, n, n, 7) for n in range(20)], range(20))
        self.assertEqual(behind(ahead, [COMMON, NARROW]), [[2, 1, 50, 4, 7], [1, 50, 20]])


class Narrow(unittest.TestCase):
    def test_none_is_claimed(self):
        self.assertEqual(behind([BEGIN], [NARROW]), [[-6]])
        self.assertEqual(behind(stocked(3, [(1, 2, 3, 4, 5)]) + [send(0, 0)], [NARROW]), [[-6]])

    def test_none_is_shared(self):
        ahead = claimed([(1, 2, 3, 4, 5), (2, 3, 4, 5, 6)], [0, 1])
        self.assertEqual(behind(ahead, [NARROW]), [[-33]])

    def test_one_claim(self):
        ahead = claimed([(1, 2, 3, 4, 5), (1, 2, 0, 4, 5), (1, 2, 0, 0, 5)], [0])
        self.assertEqual(behind(ahead, [NARROW]), [[2, 3, 1]])

    def test_of_alike_ones_the_first(self):
        ahead = claimed([(1, 2, 3, 4, 5)], [0])
        self.assertEqual(behind(ahead, [NARROW]), [[0, 1, 1]])
        ahead = claimed([(9, 8, 7, 6, 5), (9, 8, 0, 6, 5), (9, 8, 7, 0, 5), (9, 0, 7, 6, 5)], [0])
        self.assertEqual(behind(ahead, [NARROW]), [[1, 8, 3]])

    def test_the_last_place(self):
        ahead = claimed([(1, 1, 1, 1, 1), (1, 1, 1, 1, 2)], [0])
        self.assertEqual(behind(ahead, [NARROW]), [[4, 1, 1]])

    def test_a_narrower_mark_that_not_all_have_does_not_count(self):
        tyres = [(1, 2, 3, 4, 5), (1, 2, 9, 8, 7), (1, 0, 0, 0, 0)]
        self.assertEqual(behind(claimed(tyres, [0, 1]), [NARROW]), [[1, 2, 2]])

    def test_tyres_count_in_whatever_way_they_are(self):
        tyres = [(1, 2, 3, 4, 5), (1, 6, 6, 6, 6), (7, 2, 6, 6, 6), (7, 7, 3, 6, 6), (7, 7, 7, 4, 6)]
        ahead = claimed(tyres, [0]) + [send(1, 0), send(2, 0), back(2), recall(3, 4)]
        self.assertEqual(behind(ahead, [NARROW]), [[4, 5, 1]])
        ahead = claimed(tyres + [(7, 7, 7, 7, 5), (7, 7, 7, 7, 5)], [0]) + [send(1, 0), send(2, 0), back(2)]
        self.assertEqual(behind(ahead, [NARROW]), [[0, 1, 2]])

    def test_the_value_at_another_place_does_not_count(self):
        ahead = claimed([(1, 2, 3, 4, 5), (2, 1, 1, 1, 1), (0, 2, 3, 4, 5)], [0])
        self.assertEqual(behind(ahead, [NARROW]), [[0, 1, 1]])

    def test_asking_changes_nothing(self):
        ahead = claimed([(1, 2, 3, 4, 5), (1, 2, 9, 8, 7), (1, 0, 0, 0, 0)], [0, 1])
        self.assertEqual(behind(ahead, [NARROW, COMMON, NARROW, COMMON, claim(0)]),
                         [[1, 2, 2], [2, 0, 1, 1, 2], [1, 2, 2], [2, 0, 1, 1, 2], [-17]])


class Two(unittest.TestCase):
    def check(self, tyres, numbers, told):
        self.assertEqual(behind(claimed(tyres, numbers), [TWO]), [told])

    def test_none_is_claimed(self):
        self.assertEqual(behind([BEGIN], [TWO]), [[-6]])
        self.assertEqual(behind(stocked(3, [(1, 2, 3, 4, 5)]) + [TWO, send(0, 0), TWO, back(0)], [TWO]), [[-6]])

    def test_one_claim_is_explained_by_one_mark_twice(self):
        self.check([(1, 2, 3, 4, 5)], [0], [1, 0, 1, 0, 1])
        self.check([(0, 0, 0, 0, 0)], [0], [1, 0, 0, 0, 0])
        self.check([(99, 99, 99, 99, 99)], [0], [1, 0, 99, 0, 99])

    def test_one_claim_and_others_that_have_some_of_its_marks(self):
        self.check([(1, 2, 3, 4, 5), (1, 2, 0, 4, 5), (1, 2, 0, 0, 5)], [0], [1, 2, 3, 2, 3])
        self.check([(1, 2, 3, 4, 5), (1, 2, 0, 4, 5)], [0], [1, 2, 3, 2, 3])
        self.check([(1, 2, 3, 4, 5), (1, 2, 3, 4, 0)], [0], [1, 4, 5, 4, 5])

    def test_one_claim_with_marks_that_alike_many_have(self):
        self.check([(1, 2, 3, 4, 5), (1, 2, 0, 0, 5)], [0], [1, 2, 3, 2, 3])
        self.check([(1, 2, 3, 4, 5)] * 4, [2], [4, 0, 1, 0, 1])

    def test_a_shared_mark_twice_is_narrower_than_any_two(self):
        tyres = [(1, 2, 3, 4, 5), (6, 2, 7, 8, 9), (1, 0, 3, 4, 5), (6, 0, 7, 8, 9)]
        self.check(tyres, [0, 1], [2, 1, 2, 1, 2])

    def test_two_others_are_narrower_than_the_shared_mark(self):
        self.check([(1, 2, 3, 4, 5), (1, 6, 7, 8, 9), (1, 0, 0, 0, 0)], [0, 1], [2, 1, 2, 1, 6])

    def test_the_shared_mark_and_two_others_alike_many(self):
        self.check([(1, 2, 3, 4, 5), (1, 6, 7, 8, 9)], [0, 1], [2, 0, 1, 0, 1])
        self.check([(5, 7, 1, 1, 1), (6, 7, 2, 2, 2)], [0, 1], [2, 0, 5, 0, 6])

    def test_a_mark_within_the_shared_one_stands_ahead_of_it(self):
        tyres = [(5, 7, 1, 1, 1), (6, 7, 2, 2, 2), (6, 0, 2, 2, 2)]
        self.check(tyres, [0, 1], [2, 0, 5, 1, 7])

    def test_claims_that_share_nothing(self):
        self.check([(1, 1, 1, 1, 1), (2, 2, 2, 2, 2)], [0, 1], [2, 0, 1, 0, 2])
        tyres = [(1, 1, 1, 1, 1), (2, 2, 2, 2, 2), (1, 9, 9, 9, 9), (9, 9, 9, 9, 2)]
        self.check(tyres, [0, 1], [2, 0, 2, 1, 1])

    def test_two_and_two_claims(self):
        tyres = [(1, 1, 1, 1, 1), (1, 2, 2, 2, 2), (3, 3, 3, 8, 3), (4, 4, 4, 8, 4)]
        self.check(tyres, [0, 1, 2, 3], [4, 0, 1, 3, 8])
        self.check(tyres + [(1, 5, 5, 8, 5), (0, 0, 0, 8, 0)], [3, 1, 0, 2], [6, 0, 1, 3, 8])

    def test_each_two_share_and_all_do_not(self):
        self.check([(1, 2, 3, 0, 0), (1, 5, 4, 1, 1), (6, 2, 4, 2, 2)], [0, 1, 2], [3, 0, 1, 0, 6])

    def test_no_two_explain(self):
        tyres = [(1, 1, 1, 1, 1), (2, 2, 2, 2, 2), (3, 3, 3, 3, 3)]
        self.check(tyres, [0, 1, 2], [-33])
        tyres = [(1, 1, 1, 1, 1), (1, 2, 2, 2, 2), (3, 3, 3, 8, 3), (4, 4, 4, 8, 4), (5, 5, 5, 5, 5)]
        self.check(tyres, [0, 1, 2, 3, 4], [-33])

    def test_claim_by_claim(self):
        ahead = stocked(9, [(1, 1, 1, 1, 1), (2, 2, 2, 2, 2), (3, 3, 3, 3, 3)]) + [send(t, t) for t in range(3)]
        calls = [TWO, claim(1), TWO, claim(2), TWO, claim(0), TWO, NARROW, COMMON]
        self.assertEqual(behind(ahead, calls), [
            [-6], [1], [1, 0, 2, 0, 2], [2], [2, 0, 2, 0, 3], [3], [-33], [-33], [0],
        ])

    def test_two_marks_of_one_place(self):
        tyres = [(1, 1, 1, 1, 8), (2, 2, 2, 2, 9), (3, 3, 3, 3, 8), (4, 4, 4, 4, 9)]
        self.check(tyres, [0, 1, 2, 3], [4, 4, 8, 4, 9])
        self.check(tyres, [3, 2], [2, 0, 3, 0, 4])

    def test_a_tyre_that_has_both_counts_once(self):
        tyres = [
            (1, 2, 10, 10, 10), (1, 3, 11, 11, 11), (4, 2, 12, 12, 12), (1, 2, 20, 20, 20), (4, 30, 12, 12, 12),
            (40, 3, 11, 11, 11),
        ]
        self.check(tyres, [0, 1, 2], [4, 0, 1, 1, 2])

    def test_pairs_alike_in_the_first_one(self):
        tyres = [(1, 4, 2, 2, 2), (2, 3, 7, 7, 7), (2, 0, 0, 0, 0)]
        self.check(tyres, [0, 1], [2, 0, 1, 1, 3])
        self.check(tyres + [(0, 3, 0, 0, 0)], [0, 1], [2, 0, 1, 2, 7])

    def test_the_value_at_another_place_is_another_mark(self):
        self.check([(7, 1, 2, 3, 4), (5, 7, 9, 9, 9), (6, 6, 7, 6, 6)], [0, 1], [2, 0, 5, 0, 7])
        self.check([(7, 7, 7, 7, 7), (1, 2, 3, 4, 5), (6, 7, 7, 7, 7)], [0], [1, 0, 7, 0, 7])
        self.check([(7, 1, 1, 1, 1), (2, 7, 2, 2, 2), (3, 3, 7, 3, 3)], [0, 1, 2], [-33])

    def test_tyres_count_in_whatever_way_they_are(self):
        tyres = [(1, 2, 3, 4, 5), (1, 6, 6, 6, 6), (7, 2, 6, 6, 6), (7, 7, 3, 6, 6), (7, 7, 7, 4, 6)]
        ahead = claimed(tyres, [0]) + [send(1, 0), send(2, 0), back(2), recall(3, 4)]
        self.assertEqual(behind(ahead, [TWO]), [[1, 4, 5, 4, 5]])

    def test_claimed_ones_come_back_and_recalled_count(self):
        ahead = claimed([(1, 1, 1, 1, 1), (2, 2, 2, 2, 2), (3, 3, 3, 3, 3)], [0, 1])
        ahead += [back(0), recall(0, 2), recall(0, 1)]
        self.assertEqual(behind(ahead, [TWO]), [[2, 0, 1, 0, 2]])

    def test_twenty_claims(self):
        tyres = [(n, n, 40 + n % 2, n, n) for n in range(20)]
        self.check(tyres, range(20), [20, 2, 40, 2, 41])
        self.check(tyres + [(0, 0, 41, 0, 0)] * 40, range(20), [60, 2, 40, 2, 41])
        self.check([(n, n, 40 + n % 3, n, n) for n in range(20)], range(20), [-33])
        self.check([(n, 50, n, n, n) for n in range(20)], range(20), [20, 0, 0, 1, 50])

    def test_asking_changes_nothing(self):
        ahead = claimed([(1, 1, 1, 1, 1), (2, 2, 2, 2, 2), (3, 3, 3, 3, 3)], [0, 1])
        self.assertEqual(behind(ahead, [TWO, TWO, COMMON, claim(0), send(2, 1), claim(2), TWO]),
                         [[2, 0, 1, 0, 2]] * 2 + [[0], [-17], [0], [3], [-33]])


if __name__ == "__main__":
    unittest.main()

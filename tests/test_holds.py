"""What holds, over many lines that are made up with fixed seeds."""

import random
import unittest

from tests.lines import (
    COMMON, NARROW, SAMPLES, TOP, TWO, WAYS, answered, behind, look, rate, stock, who, worst,
)
from tests.model import Model

WRONG = (0, 5, 9, 10, 60, 61, 99, 100, 1000, 1001, TOP)
# Of each call that may change something how often it is drawn: in one kind of line much is claimed, in the other
# much is recalled.
MOODS = (
    (1, 8, 60, 15, 30, 60, 10, 70, 15, 2, 6),
    (1, 8, 60, 30, 50, 30, 10, 30, 20, 40, 15),
)
ASKING = range(11, 26)


class Maker:
    """Makes lines of calls; few values are used, so that tyres share marks."""

    def __init__(self, seed):
        self.source = random.Random(seed)
        self.values = self.source.choice((1, 2, 3, 6, 12))
        self.weights = (self.source.choice((0, 1)),) + self.source.choice(MOODS)[1:]
        self.weights += (self.source.choice((2, 5, 12)),) * len(ASKING)
        self.racks = 0
        self.tyres = 0

    def below(self, limit):
        if self.source.random() < 0.02:
            return self.source.choice(WRONG)
        return self.source.randrange(limit)

    def tell(self, number):
        tyre = self.tyres + 1
        rack = self.racks + 1
        mark = (5, self.values + 2)
        limits = {
            1: (14,), 3: (tyre, rack), 4: (tyre, 10), 5: (5, self.values, 10), 6: (20,), 7: (tyre,),
            8: (tyre,), 9: mark, 10: mark, 14: mark, 15: (6,), 16: mark, 19: (rack,), 20: mark, 21: (10,), 23: (tyre,),
        }.get(number, ())
        return [number] + [self.below(limit) for limit in limits]

    def tell_put(self):
        count = 5 if self.source.random() < 0.95 else self.source.randrange(9)
        return [2, self.below(self.racks + 1), count] + [self.below(self.values) for step in range(count)]

    def call(self):
        number = self.source.choices(range(26), self.weights)[0]
        call = self.tell_put() if number == 2 else self.tell(number)
        # About how many there are is enough: that some aren't there is wanted, too.
        self.racks = 0 if number == 0 else min(self.racks + (number == 1), 8)
        self.tyres = 0 if number == 0 else min(self.tyres + (number == 2), 60)
        return call

    def line(self):
        ahead = self.source.choice(([], [[0]], [[0], [1, 60], [1, 4], [1, 1]], [[0], [1, 20], [1, 9], [1, 5]]))
        self.racks = max(0, len(ahead) - 1)
        return ahead + [self.call() for step in range(self.source.choice((5, 100, 396)))]


class MadeUpLines(unittest.TestCase):
    def test_each_answer_is_the_one_the_document_tells(self):
        seen = set()
        for seed in range(120):
            calls = Maker(seed).line()
            model = Model()
            told = answered(calls)
            with self.subTest(seed=seed):
                self.assertEqual(told, [model.answer(call) for call in calls])
            seen |= {(call[0], min(answer[0], 0)) for call, answer in zip(calls, told)}
        self.check_that_all_was_met(seen)

    def test_arguments_that_are_also_numbers_of_calls(self):
        for number in range(26):
            calls = list(WAYS)
            for sample in SAMPLES[3:]:
                calls.append(sample[:1] + [number] * (len(sample) - 1))
                calls.append(sample[:2] + [number] * (len(sample) - 2))
            model = Model()
            with self.subTest(number=number):
                self.assertEqual(answered(calls), [model.answer(call) for call in calls])

    def check_that_all_was_met(self, seen):
        """Without this a change of the maker could leave refusals unasked."""
        refusals = {
            0: (), 1: (-22, -28), 2: (-2, -22, -28), 3: (-2, -16, -17, -28), 4: (-2, -22, -16, -13),
            5: (-22, -6), 6: (-22,), 7: (-2, -16, -17, -28), 8: (-2, -16), 9: (-22, -17, -28), 10: (-22, -2),
            11: (-6,), 12: (-6, -33), 13: (-6, -33), 14: (-22,), 15: (-22, -6), 16: (-22,), 17: (), 18: (), 19: (-2,),
            20: (-22,), 21: (-22,), 22: (-6,), 23: (-2,), 24: (), 25: (),
        }
        due = {(number, told) for number in refusals for told in (0,) + refusals[number]}
        due |= {(number, -11) for number in range(1, 26)}
        self.assertEqual(seen, due)

    def check_without(self, seed, dropped):
        """The calls of a line answer the same when those are left out of it that are dropped."""
        calls = Maker(seed).line()
        told = answered(calls)
        kept = [place for place in range(len(calls)) if not dropped(calls[place], told[place])]
        with self.subTest(seed=seed):
            self.assertEqual(answered([calls[place] for place in kept]), [told[place] for place in kept])

    def test_what_is_refused_changes_nothing(self):
        for seed in range(1000, 1060):
            self.check_without(seed, lambda call, answer: answer[0] < 0)

    def test_asking_changes_nothing(self):
        for seed in range(3000, 3060):
            self.check_without(seed, lambda call, answer: call[0] in ASKING)

    def test_a_refusal_stands_alone_and_nothing_else_is_below_0(self):
        for seed in range(2000, 2030):
            for answer in answered(Maker(seed).line()):
                if min(answer) < 0:
                    self.assertEqual(len(answer), 1)

    def test_how_many_numbers_are_answered(self):
        """Those without a length here tell by their first number how many stand behind it; stock alone doesn't."""
        lengths = {0: 1, 1: 1, 2: 1, 3: 1, 4: 1, 5: 2, 6: 1, 7: 1, 8: 2, 9: 2, 10: 1, 12: 3, 13: 5, 14: 3, 15: 4,
                   22: 3, 23: 10, 24: 5, 25: 4}
        for seed in range(4000, 4030):
            calls = Maker(seed).line()
            for call, answer in zip(calls, answered(calls)):
                counted = {11: 1 + 2 * answer[0], 19: len(answer)}.get(call[0], 1 + answer[0])
                if answer[0] >= 0:
                    self.assertEqual(len(answer), lengths.get(call[0], counted), call)


class WhatHolds(unittest.TestCase):
    """What the document says of the answers among themselves, asked at the end of made-up lines."""

    def test_at_the_end_of_each_line(self):
        checks = (self.check_racks, self.check_shared, self.check_the_two, self.check_worst, self.check_claimed,
                  self.check_customers)
        for seed in range(5000, 5060):
            calls = [[0]] + Maker(seed).line()[:280]
            tyres = [answer for answer in behind(calls, [look(t) for t in range(60)]) if answer != [-2]]
            for check in checks:
                with self.subTest(seed=seed, check=check.__name__):
                    check(calls, tyres)

    def check_racks(self, calls, tyres):
        """No rack holds more than it may."""
        for answer in behind(calls, [stock(r) for r in range(8)]):
            self.assertTrue(answer == [-2] or answer[0] >= 0)

    def check_shared(self, calls, tyres):
        """Where all share something, two explain it, too, with no more tyres."""
        shared, narrow, two = behind(calls, [COMMON, NARROW, TWO])
        if shared[0] > 0:
            self.assertGreater(two[0], 0)
            self.assertLessEqual(two[0], narrow[2])

    def check_the_two(self, calls, tyres):
        """The two explain the claims, and stand in order."""
        two = behind(calls, [TWO])[0]
        if two[0] > 0:
            having = [tyre for tyre in tyres if tyre[5 + two[1]] == two[2] or tyre[5 + two[3]] == two[4]]
            self.assertEqual(len(having), two[0])
            self.assertEqual([tyre for tyre in tyres if tyre[3] == 1 and tyre not in having], [])
            self.assertLessEqual(two[1:3], two[3:])

    def check_worst(self, calls, tyres):
        """Of no mark is a greater part claimed."""
        found = behind(calls, [worst(2)])[0]
        if found[0] >= 0:
            for answer in behind(calls, [rate(k, v) for k in range(5) for v in range(9)]):
                if answer[1] >= 2:
                    self.assertLessEqual(answer[0] * found[3], found[2] * answer[1])

    def check_claimed(self, calls, tyres):
        """Claimed is only what was sent."""
        self.assertEqual([tyre for tyre in tyres if tyre[0] == 0 and tyre[3] == 1], [])

    def check_customers(self, calls, tyres):
        """Who has some of it is told, and nobody else."""
        for place in range(5):
            customers = {tyre[1] for tyre in tyres if tyre[0] == 1 and tyre[5 + place] == 1}
            self.assertEqual(behind(calls, [who(place, 1)]), [[len(customers)] + sorted(customers)])


if __name__ == "__main__":
    unittest.main()

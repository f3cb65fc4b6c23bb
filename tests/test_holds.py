"""What holds, over many lines that are made up with fixed seeds."""

import random
import unittest

from tests.lines import TOP, answered
from tests.model import Model

WRONG = (0, 5, 9, 10, 60, 61, 99, 100, 1000, 1001, TOP)
# Of each call how often it is drawn: in one kind of line much is claimed, in the other much is recalled.
MOODS = (
    (1, 8, 60, 15, 30, 60, 10, 70, 15, 2, 6, 10, 10),
    (1, 8, 60, 30, 50, 30, 10, 30, 20, 40, 15, 15, 15),
)


class Maker:
    """Makes lines of calls; few values are used, so that tyres share marks."""

    def __init__(self, seed):
        self.source = random.Random(seed)
        self.values = self.source.choice((1, 2, 3, 6))
        self.weights = (self.source.choice((0, 1)),) + self.source.choice(MOODS)[1:]
        self.racks = 0
        self.tyres = 0

    def below(self, limit):
        if self.source.random() < 0.02:
            return self.source.choice(WRONG)
        return self.source.randrange(limit)

    def tell(self, number):
        tyre = self.tyres + 1
        rack = self.racks + 1
        mark = (5, self.values + 2)
        limits = {
            0: (), 1: (14,), 3: (tyre, rack), 4: (tyre, 10), 5: (5, self.values, 10), 6: (20,), 7: (tyre,),
            8: (tyre,), 9: mark, 10: mark, 11: (), 12: (),
        }[number]
        return [number] + [self.below(limit) for limit in limits]

    def tell_put(self):
        count = 5 if self.source.random() < 0.95 else self.source.randrange(9)
        return [2, self.below(self.racks + 1), count] + [self.below(self.values) for step in range(count)]

    def call(self):
        number = self.source.choices(range(13), self.weights)[0]
        call = self.tell_put() if number == 2 else self.tell(number)
        # About how many there are is enough: that some aren't there is wanted, too.
        self.racks = 0 if number == 0 else min(self.racks + (number == 1), 8)
        self.tyres = 0 if number == 0 else min(self.tyres + (number == 2), 60)
        return call

    def line(self):
        ahead = self.source.choice(([], [[0]], [[0], [1, 60], [1, 4], [1, 1]], [[0], [1, 20], [1, 9], [1, 5]]))
        self.racks = max(0, len(ahead) - 1)
        return ahead + [self.call() for step in range(self.source.choice((5, 100, 396)))]


class MadeUpLines(unittest.TestCase):
    def test_each_answer_is_the_one_the_document_tells(self):
        seen = set()
        for seed in range(120):
            calls = Maker(seed).line()
            model = Model()
            told = answered(calls)
            with self.subTest(seed=seed):
                self.assertEqual(told, [model.answer(call) for call in calls])
            seen |= {(call[0], min(answer[0], 0)) for call, answer in zip(calls, told)}
        self.check_that_all_was_met(seen)

    def check_that_all_was_met(self, seen):
        """Without this a change of the maker could leave refusals unasked."""
        refusals = {
            0: (), 1: (-22, -28), 2: (-2, -22, -28), 3: (-2, -16, -17, -28), 4: (-2, -22, -16, -13),
            5: (-22, -6), 6: (-22,), 7: (-2, -16, -17, -28), 8: (-2, -16), 9: (-22, -17, -28), 10: (-22, -2),
            11: (-6,), 12: (-6, -33),
        }
        due = {(number, told) for number in refusals for told in (0,) + refusals[number]}
        due |= {(number, -11) for number in range(1, 13)}
        self.assertEqual(seen, due)

    def test_what_is_refused_changes_nothing(self):
        for seed in range(1000, 1060):
            calls = Maker(seed).line()
            told = answered(calls)
            kept = [place for place in range(len(calls)) if told[place][0] >= 0]
            with self.subTest(seed=seed):
                self.assertEqual(answered([calls[place] for place in kept]), [told[place] for place in kept])

    def test_a_refusal_stands_alone_and_nothing_else_is_below_0(self):
        for seed in range(2000, 2030):
            for answer in answered(Maker(seed).line()):
                if min(answer) < 0:
                    self.assertEqual(len(answer), 1)


if __name__ == "__main__":
    unittest.main()

"""What's refused changes nothing, and neither does asking: each refusal and each asking call."""

import unittest

from tests.lines import (
    BEGIN, BLOCKED, COMMON, EVERYTHING, LEFT, NARROW, NEXT, STATE, SUMS, TOP, TWO, WAYS, answered, back, behind, claim,
    days, having, lift, look, move, oldest, put, rack, rate, recall, send, sentto, stock, stocked, who, worst,
)

MARKS = (1, 2, 3, 4, 5)
FULL = stocked(60, [MARKS] * 60) + [rack(1)] * 7 + [oldest(0, 1, 3)] * 21 + [claim(t) for t in range(20)]
FULL += [recall(2, v) for v in range(50, 60)]
APART = stocked(9, [(n, n, n, n, n) for n in range(4)]) + [send(n, n) for n in range(3)]
APART += [claim(n) for n in range(3)]

# The calls ahead, the call that's refused, by which number.
REFUSED = [
    (WAYS, rack(0), -22), (WAYS, rack(61), -22), (FULL, rack(1), -28),
    (WAYS, put(3, *MARKS), -2), (WAYS, put(0), -22), (WAYS, put(0, 1, 2, 3, 4), -22),
    (WAYS, put(0, 1, 2, 3, 4, 5, 6), -22), (WAYS, put(0, 1, 2, 3, 4, 100), -22), (FULL, put(0, *MARKS), -28),
    (stocked(1, [MARKS]), put(0, *MARKS), -28),
    (WAYS, move(11, 0), -2), (WAYS, move(0, 3), -2), (WAYS, move(2, 1), -16), (WAYS, move(6, 1), -16),
    (WAYS, move(10, 1), -17), (WAYS + [move(0, 2)], move(1, 2), -28),
    (WAYS, days(0), -22), (WAYS, days(1001), -22),
    (WAYS, send(11, 0), -2), (WAYS, send(0, 10), -22), (WAYS, send(2, 0), -16), (WAYS, send(6, 0), -16),
    (WAYS, send(1, 0), -13),
    (WAYS, oldest(5, 1, 0), -22), (WAYS, oldest(0, 100, 0), -22), (WAYS, oldest(0, 1, 10), -22),
    (WAYS, oldest(0, 7, 0), -6), (WAYS, oldest(4, 20, 0), -6),
    (WAYS, claim(11), -2), (WAYS, claim(0), -16), (WAYS, claim(4), -17), (WAYS, claim(8), -17), (FULL, claim(20), -28),
    (WAYS, back(11), -2), (WAYS, back(0), -16), (WAYS, back(6), -16),
    (WAYS, recall(5, 0), -22), (WAYS, recall(0, 100), -22), (WAYS, recall(0, 7), -17), (FULL, recall(0, 1), -28),
    (WAYS, lift(5, 7), -22), (WAYS, lift(0, 100), -22), (WAYS, lift(0, 1), -2), (WAYS, lift(1, 7), -2),
    ([BEGIN], COMMON, -6), ([BEGIN], NARROW, -6), ([BEGIN], TWO, -6), (APART, NARROW, -33), (APART, TWO, -33),
    (WAYS, rate(5, 0), -22), (WAYS, rate(0, 100), -22), (WAYS, worst(0), -22), (WAYS, worst(9), -6),
    (WAYS, who(5, 0), -22), (WAYS, who(0, 100), -22), (WAYS, stock(3), -2), (WAYS, having(5, 0), -22),
    (WAYS, having(0, 100), -22), (WAYS, sentto(10), -22), (WAYS + [recall(1, 2)], NEXT, -6), (WAYS, look(11), -2),
]

ASKING = [
    COMMON, NARROW, TWO, rate(0, 7), worst(1), who(0, 7), LEFT, BLOCKED, stock(0), having(0, 7), sentto(9), NEXT,
    look(5), SUMS, STATE,
]


class NothingChanged(unittest.TestCase):
    def check(self, ahead, call):
        """What is told of everything behind the call is what was told ahead of it."""
        self.assertEqual(behind(ahead + [call], EVERYTHING), behind(ahead, EVERYTHING))
        told = behind(ahead, EVERYTHING + [call] + EVERYTHING)
        self.assertEqual(told[:len(EVERYTHING)], told[-len(EVERYTHING):])

    def test_by_each_refusal(self):
        for ahead, call, refusal in REFUSED:
            with self.subTest(call=call, refusal=refusal):
                self.assertEqual(behind(ahead, [call]), [[refusal]])
                self.check(ahead, call)

    def test_by_each_asking_call(self):
        for ahead in (WAYS, FULL, APART, [BEGIN]):
            for call in ASKING:
                with self.subTest(calls=len(ahead), call=call):
                    self.assertEqual(behind(ahead, [call]), behind(ahead + [call], [call]))
                    self.check(ahead, call)

    def test_every_call_is_among_them(self):
        self.assertEqual({call[0] for ahead, call, refusal in REFUSED} | {call[0] for call in ASKING},
                         set(range(1, 26)))

    def test_the_lines_ahead_are_as_they_should_be(self):
        for ahead in (WAYS, FULL, APART):
            self.assertEqual([answer for answer in answered(ahead) if answer[0] < 0], [])
            self.assertLessEqual(len(ahead) + 2 * len(EVERYTHING) + 1, 400)

    def test_what_recalls_stays_recalled(self):
        ahead = WAYS + [recall(0, 7), recall(5, 0), lift(1, 7), LEFT, BLOCKED, NEXT, look(TOP)]
        self.assertEqual(behind(ahead, [STATE, lift(0, 7), STATE]), [[18, 3, 11, 1], [0], [18, 3, 11, 0]])


if __name__ == "__main__":
    unittest.main()

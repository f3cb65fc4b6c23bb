"""How tests tell calls and read what is answered."""

from recalltyres.store import answers

TOP = 4294967295
BEGIN = [0]
COMMON = [11]
NARROW = [12]

# One of each call, by its number.
SAMPLES = [
    [0], [1, 3], [2, 0, 5, 1, 2, 3, 4, 5], [3, 0, 1], [4, 0, 0], [5, 0, 1, 0], [6, 1], [7, 0], [8, 0],
    [9, 0, 1], [10, 0, 1], [11], [12], [13], [14, 0, 1], [15, 1], [16, 0, 1], [17], [18], [19, 0],
    [20, 0, 1], [21, 0], [22], [23, 0], [24], [25],
]


def rack(n):
    return [1, n]


def put(r, *marks):
    return [2, r, len(marks), *marks]


def move(t, r):
    return [3, t, r]


def send(t, c):
    return [4, t, c]


def oldest(k, v, c):
    return [5, k, v, c]


def days(n):
    return [6, n]


def claim(t):
    return [7, t]


def back(t):
    return [8, t]


def recall(k, v):
    return [9, k, v]


def lift(k, v):
    return [10, k, v]


def flat(calls):
    return [number for call in calls for number in call]


def parted(told):
    """The answers, a list for each call."""
    parts = []
    start = 0
    while start < len(told):
        end = start + 1 + told[start]
        parts.append(told[start + 1:end])
        start = end
    return parts


def answered(calls):
    """What is answered to each of these calls, which are lists."""
    parts = parted(answers(flat(calls)))
    if len(parts) != len(calls):
        raise AssertionError(f"{len(calls)} calls, {len(parts)} answers")
    return parts


def behind(ahead, calls):
    """What is answered to the calls when those ahead were made first."""
    return answered(ahead + calls)[len(ahead):]


def stocked(size, tyres):
    """The calls that begin, add one rack and put these tyres in it."""
    return [BEGIN, rack(size)] + [put(0, *marks) for marks in tyres]

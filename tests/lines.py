"""How tests tell calls and read what is answered."""

from recalltyres.store import answers

TOP = 4294967295
BEGIN = [0]
COMMON = [11]
NARROW = [12]
TWO = [13]
LEFT = [17]
BLOCKED = [18]
NEXT = [22]
SUMS = [24]
STATE = [25]

# One of each call, by its number.
SAMPLES = [
    [0], [1, 3], [2, 0, 5, 1, 2, 3, 4, 5], [3, 0, 1], [4, 0, 0], [5, 0, 1, 0], [6, 1], [7, 0], [8, 0],
    [9, 0, 1], [10, 0, 1], [11], [12], [13], [14, 0, 1], [15, 1], [16, 0, 1], [17], [18], [19, 0],
    [20, 0, 1], [21, 0], [22], [23, 0], [24], [25],
]


def rack(n):
    return [1, n]


def put(r, *marks):
    return [2, r, len(marks), *marks]


def move(t, r):
    return [3, t, r]


def send(t, c):
    return [4, t, c]


def oldest(k, v, c):
    return [5, k, v, c]


def days(n):
    return [6, n]


def claim(t):
    return [7, t]


def back(t):
    return [8, t]


def recall(k, v):
    return [9, k, v]


def lift(k, v):
    return [10, k, v]


def rate(k, v):
    return [14, k, v]


def worst(n):
    return [15, n]


def who(k, v):
    return [16, k, v]


def stock(r):
    return [19, r]


def having(k, v):
    """The call with, a word that can't be a name."""
    return [20, k, v]


def sentto(c):
    return [21, c]


def look(t):
    return [23, t]


def flat(calls):
    return [number for call in calls for number in call]


def parted(told):
    """The answers, a list for each call."""
    parts = []
    start = 0
    while start < len(told):
        end = start + 1 + told[start]
        parts.append(told[start + 1:end])
        start = end
    return parts


def answered(calls):
    """What is answered to each of these calls, which are lists."""
    parts = parted(answers(flat(calls)))
    if len(parts) != len(calls):
        raise AssertionError(f"{len(calls)} calls, {len(parts)} answers")
    return parts


def behind(ahead, calls):
    """What is answered to the calls when those ahead were made first."""
    return answered(ahead + calls)[len(ahead):]


def stocked(size, tyres):
    """The calls that begin, add one rack and put these tyres in it."""
    return [BEGIN, rack(size)] + [put(0, *marks) for marks in tyres]


def claimed(tyres, numbers):
    """The calls that put these tyres, then send and claim those with the numbers."""
    calls = stocked(60, tyres)
    for number in numbers:
        calls += [send(number, 0), claim(number)]
    return calls


# Tyres in all ways at once; those of odd number up to 9 are recalled.
WAYS = [
    BEGIN, rack(12), rack(2), rack(1), days(3),
    put(0, 1, 2, 10, 50, 40),  # 0: in rack 0
    put(0, 7, 2, 11, 50, 30),  # 1: in rack 0, recalled
    put(0, 1, 2, 12, 50, 20),  # 2: sent
    put(0, 7, 2, 13, 50, 20),  # 3: sent, recalled
    put(0, 1, 2, 14, 50, 20),  # 4: sent, claimed
    put(0, 7, 2, 15, 50, 20),  # 5: sent, claimed, recalled
    put(0, 1, 2, 16, 50, 20),  # 6: come back
    put(0, 7, 2, 17, 50, 20),  # 7: come back, recalled
    put(0, 1, 2, 18, 50, 20),  # 8: come back, claimed
    put(0, 7, 2, 19, 50, 20),  # 9: come back, claimed, recalled
    put(0, 1, 2, 20, 50, 40),  # 10: moved to rack 1
    days(4), send(2, 9), send(3, 0), send(4, 4), send(5, 9), send(6, 4), send(7, 2), send(8, 9), send(9, 3),
    days(5), back(6), back(7), back(8), back(9), claim(4), claim(5), claim(8), claim(9),
    move(10, 1), recall(0, 7), days(6),
]

# Asks all that can be told of the warehouse but for marks that no tyre has.
EVERYTHING = [STATE, SUMS, LEFT, BLOCKED, NEXT, COMMON, NARROW, TWO, worst(1), worst(3)]
EVERYTHING += [sentto(c) for c in range(10)] + [stock(r) for r in range(9)] + [look(t) for t in range(61)]

"""A second, slower telling of the document's words, to compare the program's answers with."""

from fractions import Fraction


class Model:
    """Tyres are dicts, racks are lists of the tyres in them, and what holds is looked at behind each call."""

    def __init__(self):
        self.begun = False

    def answer(self, call):
        names = ["begin", "rack", "put", "move", "send", "oldest", "days", "claim", "back", "recall", "lift",
                 "common", "narrow", "two", "rate", "worst", "who", "left", "blocked", "stock", "with_mark", "sentto",
                 "next_out", "look", "sums", "state"]
        name = names[call[0]]
        if name != "begin" and not self.begun:
            return [-11]
        arguments = [call[1], call[3:]] if name == "put" else call[1:]
        told = getattr(self, name)(*arguments)
        self.check()
        return told

    def check(self):
        """What holds: a and e."""
        for room, inside in zip(self.rooms, self.racks):
            if len(inside) > room:
                raise AssertionError("a rack holds more than it may")
        inside = [t for one in self.racks for t in one]
        if sorted(inside + list(self.out) + list(self.returned)) != list(range(len(self.marks))):
            raise AssertionError("a tyre is nowhere, or twice")
        if set(self.claims) & set(inside):
            raise AssertionError("one is claimed that was not sent")

    def begin(self):
        self.begun = True
        self.today = 0
        self.rooms = []
        self.racks = []
        self.marks = []
        self.came = []
        self.out = {}
        self.returned = {}
        self.claims = []
        self.recalls = set()
        return [0]

    def rack_of(self, t):
        return next((r for r, inside in enumerate(self.racks) if t in inside), None)

    def having(self, k, v):
        return {t for t, marks in enumerate(self.marks) if (k, v) in marks}

    def is_recalled(self, t):
        return bool(self.recalls & set(self.marks[t]))

    def rack(self, n):
        if n not in range(1, 61):
            return [-22]
        if len(self.rooms) == 8:
            return [-28]
        self.rooms.append(n)
        self.racks.append([])
        return [len(self.rooms) - 1]

    def put(self, r, marks):
        if r >= len(self.racks):
            return [-2]
        if len(marks) != 5 or any(v > 99 for v in marks):
            return [-22]
        if len(self.marks) == 60 or len(self.racks[r]) == self.rooms[r]:
            return [-28]
        self.racks[r].append(len(self.marks))
        self.marks.append(list(enumerate(marks)))
        self.came.append(self.today)
        return [len(self.marks) - 1]

    def move(self, t, r):
        if t >= len(self.marks) or r >= len(self.racks):
            return [-2]
        source = self.rack_of(t)
        if source is None:
            return [-16]
        if source == r:
            return [-17]
        if len(self.racks[r]) == self.rooms[r]:
            return [-28]
        self.racks[source].remove(t)
        self.racks[r].append(t)
        return [source]

    def free(self):
        return {t for inside in self.racks for t in inside if not self.is_recalled(t)}

    def eldest(self, tyres):
        return min(tyres, key=lambda t: (self.marks[t][4], t))

    def hand(self, t, c):
        source = self.rack_of(t)
        self.racks[source].remove(t)
        self.out[t] = (c, self.today)
        return source

    def send(self, t, c):
        if t >= len(self.marks):
            return [-2]
        if c > 9:
            return [-22]
        if self.rack_of(t) is None:
            return [-16]
        if self.is_recalled(t):
            return [-13]
        return [self.hand(t, c)]

    def oldest(self, k, v, c):
        if k > 4 or v > 99 or c > 9:
            return [-22]
        fit = self.having(k, v) & self.free()
        if not fit:
            return [-6]
        t = self.eldest(fit)
        return [t, self.hand(t, c)]

    def days(self, n):
        if n not in range(1, 1001):
            return [-22]
        self.today += n
        return [self.today]

    def claim(self, t):
        if t >= len(self.marks):
            return [-2]
        if self.rack_of(t) is not None:
            return [-16]
        if t in self.claims:
            return [-17]
        if len(self.claims) == 20:
            return [-28]
        self.claims.append(t)
        return [len(self.claims)]

    def back(self, t):
        if t >= len(self.marks):
            return [-2]
        if t not in self.out:
            return [-16]
        self.returned[t] = self.out.pop(t)
        return [self.returned[t][0], self.today - self.returned[t][1]]

    def recall(self, k, v):
        if k > 4 or v > 99:
            return [-22]
        if (k, v) in self.recalls:
            return [-17]
        if len(self.recalls) == 10:
            return [-28]
        self.recalls.add((k, v))
        fit = self.having(k, v)
        return [len(fit & set(self.out)), len([t for t in fit if self.rack_of(t) is not None])]

    def lift(self, k, v):
        if k > 4 or v > 99:
            return [-22]
        if (k, v) not in self.recalls:
            return [-2]
        self.recalls.discard((k, v))
        return [len(self.recalls)]

    def shared(self):
        return [(k, v) for k in range(5) for v in range(100) if set(self.claims) <= self.having(k, v)]

    def common(self):
        if not self.claims:
            return [-6]
        return [len(self.shared())] + [number for mark in self.shared() for number in mark]

    def narrow(self):
        if not self.claims:
            return [-6]
        if not self.shared():
            return [-33]
        size, k, v = min((len(self.having(k, v)), k, v) for k, v in self.shared())
        return [k, v, size]

    def two(self):
        if not self.claims:
            return [-6]
        marks = {mark for t in self.claims for mark in self.marks[t]}
        having = {mark: self.having(*mark) for mark in marks}
        pairs = [(a, b) for a in marks for b in marks if set(self.claims) <= having[a] | having[b]]
        if not pairs:
            return [-33]
        size, first, second = min((len(having[a] | having[b]), a, b) for a, b in pairs)
        return [size, *first, *second]

    def rate(self, k, v):
        if k > 4 or v > 99:
            return [-22]
        fit = self.having(k, v)
        return [len(fit & set(self.claims)), len(fit & (set(self.out) | set(self.returned))), len(fit)]

    def worst(self, n):
        if n == 0:
            return [-22]
        rates = [(k, v, *self.rate(k, v)[:2]) for k in range(5) for v in range(100)]
        rates = [row for row in rates if row[3] >= n]
        if not rates:
            return [-6]
        return list(min(rates, key=lambda row: (-Fraction(row[2], row[3]), row)))

    def who(self, k, v):
        if k > 4 or v > 99:
            return [-22]
        customers = [c for c in range(10) if any(self.out[t][0] == c for t in self.having(k, v) & set(self.out))]
        return [len(customers)] + customers

    def left(self):
        tyres = sorted(t for t in self.out if self.is_recalled(t))
        return [len(tyres)] + tyres

    def blocked(self):
        tyres = sorted(t for inside in self.racks for t in inside if self.is_recalled(t))
        return [len(tyres)] + tyres

    def stock(self, r):
        if r >= len(self.racks):
            return [-2]
        return [self.rooms[r] - len(self.racks[r])] + sorted(self.racks[r])

    def with_mark(self, k, v):
        if k > 4 or v > 99:
            return [-22]
        return [len(self.having(k, v))] + sorted(self.having(k, v))

    def sentto(self, c):
        if c > 9:
            return [-22]
        tyres = sorted(t for t in self.out if self.out[t][0] == c)
        return [len(tyres)] + tyres

    def next_out(self):
        if not self.free():
            return [-6]
        t = self.eldest(self.free())
        return [t, self.rack_of(t), self.marks[t][4][1]]

    def look(self, t):
        if t >= len(self.marks):
            return [-2]
        if t in self.out:
            way = [1, *self.out[t]]
        elif t in self.returned:
            way = [2, *self.returned[t]]
        else:
            way = [0, self.rack_of(t), self.came[t]]
        return way + [int(t in self.claims), int(self.is_recalled(t))] + [v for k, v in self.marks[t]]

    def sums(self):
        return [0, sum(map(len, self.racks)), len(self.out), len(self.returned), len(self.claims)]

    def state(self):
        return [self.today, len(self.racks), len(self.marks), len(self.recalls)]

"""A second, slower telling of the document's words, to compare the program's answers with."""


class Model:
    """Tyres are dicts, racks are lists of the tyres in them, and what holds is looked at behind each call."""

    def __init__(self):
        self.begun = False

    def answer(self, call):
        names = ["begin", "rack", "put", "move", "send", "oldest", "days", "claim", "back", "recall", "lift",
                 "common", "narrow"]
        name = names[call[0]]
        if name != "begin" and not self.begun:
            return [-11]
        arguments = [call[1], call[3:]] if name == "put" else call[1:]
        told = getattr(self, name)(*arguments)
        self.check()
        return told

    def check(self):
        """What holds: a and e."""
        for room, inside in zip(self.rooms, self.racks):
            if len(inside) > room:
                raise AssertionError("a rack holds more than it may")
        inside = [t for one in self.racks for t in one]
        if sorted(inside + list(self.out) + list(self.returned)) != list(range(len(self.marks))):
            raise AssertionError("a tyre is nowhere, or twice")
        if set(self.claims) & set(inside):
            raise AssertionError("one is claimed that was not sent")

    def begin(self):
        self.begun = True
        self.today = 0
        self.rooms = []
        self.racks = []
        self.marks = []
        self.out = {}
        self.returned = {}
        self.claims = []
        self.recalls = set()
        return [0]

    def rack_of(self, t):
        return next((r for r, inside in enumerate(self.racks) if t in inside), None)

    def having(self, k, v):
        return {t for t, marks in enumerate(self.marks) if (k, v) in marks}

    def is_recalled(self, t):
        return bool(self.recalls & set(self.marks[t]))

    def rack(self, n):
        if n not in range(1, 61):
            return [-22]
        if len(self.rooms) == 8:
            return [-28]
        self.rooms.append(n)
        self.racks.append([])
        return [len(self.rooms) - 1]

    def put(self, r, marks):
        if r >= len(self.racks):
            return [-2]
        if len(marks) != 5 or any(v > 99 for v in marks):
            return [-22]
        if len(self.marks) == 60 or len(self.racks[r]) == self.rooms[r]:
            return [-28]
        self.racks[r].append(len(self.marks))
        self.marks.append(list(enumerate(marks)))
        return [len(self.marks) - 1]

    def move(self, t, r):
        if t >= len(self.marks) or r >= len(self.racks):
            return [-2]
        source = self.rack_of(t)
        if source is None:
            return [-16]
        if source == r:
            return [-17]
        if len(self.racks[r]) == self.rooms[r]:
            return [-28]
        self.racks[source].remove(t)
        self.racks[r].append(t)
        return [source]

    def hand(self, t, c):
        source = self.rack_of(t)
        self.racks[source].remove(t)
        self.out[t] = (c, self.today)
        return source

    def send(self, t, c):
        if t >= len(self.marks):
            return [-2]
        if c > 9:
            return [-22]
        if self.rack_of(t) is None:
            return [-16]
        if self.is_recalled(t):
            return [-13]
        return [self.hand(t, c)]

    def oldest(self, k, v, c):
        if k > 4 or v > 99 or c > 9:
            return [-22]
        fit = [t for t in self.having(k, v) if self.rack_of(t) is not None and not self.is_recalled(t)]
        if not fit:
            return [-6]
        t = min(fit, key=lambda one: (self.marks[one][4], one))
        return [t, self.hand(t, c)]

    def days(self, n):
        if n not in range(1, 1001):
            return [-22]
        self.today += n
        return [self.today]

    def claim(self, t):
        if t >= len(self.marks):
            return [-2]
        if self.rack_of(t) is not None:
            return [-16]
        if t in self.claims:
            return [-17]
        if len(self.claims) == 20:
            return [-28]
        self.claims.append(t)
        return [len(self.claims)]

    def back(self, t):
        if t >= len(self.marks):
            return [-2]
        if t not in self.out:
            return [-16]
        self.returned[t] = self.out.pop(t)
        return [self.returned[t][0], self.today - self.returned[t][1]]

    def recall(self, k, v):
        if k > 4 or v > 99:
            return [-22]
        if (k, v) in self.recalls:
            return [-17]
        if len(self.recalls) == 10:
            return [-28]
        self.recalls.add((k, v))
        fit = self.having(k, v)
        return [len(fit & set(self.out)), len([t for t in fit if self.rack_of(t) is not None])]

    def lift(self, k, v):
        if k > 4 or v > 99:
            return [-22]
        if (k, v) not in self.recalls:
            return [-2]
        self.recalls.discard((k, v))
        return [len(self.recalls)]

    def shared(self):
        return [(k, v) for k in range(5) for v in range(100) if set(self.claims) <= self.having(k, v)]

    def common(self):
        if not self.claims:
            return [-6]
        return [len(self.shared())] + [number for mark in self.shared() for number in mark]

    def narrow(self):
        if not self.claims:
            return [-6]
        if not self.shared():
            return [-33]
        size, k, v = min((len(self.having(k, v)), k, v) for k, v in self.shared())
        return [k, v, size]

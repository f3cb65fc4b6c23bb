"""The object that calls are made on, and what several calls ask of it."""

PLACES = 5
WEEK_PLACE = 4
HIGHEST_VALUE = 99
HIGHEST_CUSTOMER = 9

IN_RACK = 0
SENT = 1
COME_BACK = 2


class Tyre:
    """One tyre; it keeps its customer and the day of sending when it has come back."""

    def __init__(self, marks, rack_number, day):
        self.marks = marks
        self.stage = IN_RACK
        # One value serves for both: a tyre that was sent is never in a rack again.
        self.holder = rack_number
        self.since = day
        self.claimed = False


class Warehouse:
    """Racks are kept as their sizes, recalled marks as pairs of place and value."""

    def __init__(self):
        self.day = 0
        self.sizes = []
        self.tyres = []
        self.recalled = []


def lacks_rack(house, rack_number):
    """Whether there's no such rack."""
    return rack_number >= len(house.sizes)


def lacks_tyre(house, number):
    """Whether there's no such tyre."""
    return number >= len(house.tyres)


def is_no_mark(place, value):
    """Whether the place or the value is out of range."""
    return place >= PLACES or value > HIGHEST_VALUE


def has_mark(tyre, place, value):
    """Whether the tyre has that value at that very place."""
    return tyre.marks[place] == value


def is_recalled(house, tyre):
    """Whether the tyre has one of the recalled marks."""
    return any([has_mark(tyre, mark[0], mark[1]) for mark in house.recalled])


def tyres_with(house, place, value):
    """The tyres that have the mark, in whatever way they are."""
    return [tyre for tyre in house.tyres if has_mark(tyre, place, value)]


def count_at_stage(tyres, stage):
    """How many of these tyres are in racks, sent, or come back."""
    return len([tyre for tyre in tyres if tyre.stage == stage])


def claimed_tyres(house):
    """The claimed tyres, by rising number."""
    return [tyre for tyre in house.tyres if tyre.claimed]


def is_full(house, rack_number):
    """Whether the rack holds as many tyres as it may."""
    inside = [tyre for tyre in house.tyres if tyre.stage == IN_RACK and tyre.holder == rack_number]
    return len(inside) >= house.sizes[rack_number]

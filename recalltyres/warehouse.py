"""The object that calls are made on, and what several calls ask of it."""

PLACES = 5
WEEK_PLACE = 4
HIGHEST_VALUE = 99
HIGHEST_CUSTOMER = 9

# These are also the numbers that look answers.
IN_RACK = 0
SENT = 1
COME_BACK = 2


class Tyre:
    """One tyre; it keeps its customer and the day of sending when it has come back."""

    def __init__(self, number, marks, rack_number, day):
        self.number = number
        self.marks = marks
        self.stage = IN_RACK
        # One value serves for both: a tyre that was sent is never in a rack again.
        self.holder = rack_number
        self.since = day
        self.claimed = False


class Warehouse:
    """Racks are kept as their sizes, tyres by rising number, recalled marks as pairs of place and value."""

    def __init__(self):
        self.day = 0
        self.sizes = []
        self.tyres = []
        self.recalled = []


def lacks_rack(house, rack_number):
    """Whether there's no such rack."""
    return rack_number >= len(house.sizes)


def lacks_tyre(house, number):
    """Whether there's no such tyre."""
    return number >= len(house.tyres)


def is_no_mark(place, value):
    """Whether the place or the value is out of range."""
    return place >= PLACES or value > HIGHEST_VALUE


def has_mark(tyre, place, value):
    """Whether the tyre has that value at that very place."""
    return tyre.marks[place] == value


def has_any(tyre, marks):
    """Whether the tyre has one of these marks, or several."""
    return any([has_mark(tyre, mark[0], mark[1]) for mark in marks])


def is_recalled(house, tyre):
    """Whether the tyre has one of the recalled marks."""
    return has_any(tyre, house.recalled)


def tyres_with(house, place, value):
    """The tyres that have the mark, in whatever way they are."""
    return [tyre for tyre in house.tyres if has_mark(tyre, place, value)]


def count_at_stage(tyres, stage):
    """How many of these tyres are in racks, sent, or come back."""
    return len([tyre for tyre in tyres if tyre.stage == stage])


def claimed_tyres(house):
    """The claimed tyres, by rising number."""
    return [tyre for tyre in house.tyres if tyre.claimed]


def was_sent(tyre):
    """Whether the tyre is sent, or has come back."""
    return tyre.stage != IN_RACK


def tyres_held(house, stage, holder):
    """The tyres that this rack or this customer has, by whether the stage is in a rack or sent."""
    return [tyre for tyre in house.tyres if tyre.stage == stage and tyre.holder == holder]


def room_left(house, rack_number):
    """For how many tyres there's room yet in the rack."""
    return house.sizes[rack_number] - len(tyres_held(house, IN_RACK, rack_number))


def marks_of(tyres):
    """The marks that some of these tyres have, in order."""
    marks = []
    for tyre in tyres:
        marks.extend([(place, tyre.marks[place]) for place in range(PLACES)])
    return sorted(set(marks))

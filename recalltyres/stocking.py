"""The calls rack, put, move and days."""

from recalltyres.refusals import NO_SUCH, NOT_SO, OUT_OF_RANGE, SO_ALREADY, TOO_MANY
from recalltyres.warehouse import HIGHEST_VALUE, IN_RACK, PLACES, Tyre, lacks_rack, lacks_tyre, room_left

MOST_RACKS = 8
LARGEST_RACK = 60
MOST_TYRES = 60
MOST_DAYS = 1000


def add_rack(house, size):
    """The call rack."""
    if size < 1 or size > LARGEST_RACK:
        return [OUT_OF_RANGE]
    if len(house.sizes) >= MOST_RACKS:
        return [TOO_MANY]
    house.sizes.append(size)
    return [len(house.sizes) - 1]


def are_five_marks(values):
    """Whether these can be the marks of a tyre."""
    return len(values) == PLACES and max(values) <= HIGHEST_VALUE


def put_tyre(house, rack_number, values):
    """The call put."""
    if lacks_rack(house, rack_number):
        return [NO_SUCH]
    if not are_five_marks(values):
        return [OUT_OF_RANGE]
    if len(house.tyres) >= MOST_TYRES or room_left(house, rack_number) == 0:
        return [TOO_MANY]
    number = len(house.tyres)
    house.tyres.append(Tyre(number, list(values), rack_number, house.day))
    return [number]


def move_tyre(house, number, rack_number):
    """The call move."""
    if lacks_tyre(house, number) or lacks_rack(house, rack_number):
        return [NO_SUCH]
    tyre = house.tyres[number]
    if tyre.stage != IN_RACK:
        return [NOT_SO]
    if tyre.holder == rack_number:
        return [SO_ALREADY]
    if room_left(house, rack_number) == 0:
        return [TOO_MANY]
    left_rack = tyre.holder
    tyre.holder = rack_number
    return [left_rack]


def pass_days(house, days):
    """The call days."""
    if days < 1 or days > MOST_DAYS:
        return [OUT_OF_RANGE]
    house.day += days
    return [house.day]

"""The calls who, left, blocked, stock, with, sentto and next: who and which tyres there are."""

from recalltyres.refusals import NO_SUCH, NONE_THERE, OUT_OF_RANGE
from recalltyres.sending import oldest_tyre, sendable_tyres
from recalltyres.warehouse import (
    HIGHEST_CUSTOMER,
    IN_RACK,
    SENT,
    WEEK_PLACE,
    is_no_mark,
    is_recalled,
    lacks_rack,
    room_left,
    tyres_held,
    tyres_with,
)


def numbers_of(tyres):
    """The numbers of these tyres; they rise, since a warehouse keeps its tyres so."""
    return [tyre.number for tyre in tyres]


def counted(numbers):
    """How many numbers these are, then these."""
    return [len(numbers)] + numbers


def list_customers(house, place, value):
    """The call who."""
    if is_no_mark(place, value):
        return [OUT_OF_RANGE]
    customers = [tyre.holder for tyre in tyres_with(house, place, value) if tyre.stage == SENT]
    return counted(sorted(set(customers)))


def list_recalled(house, stage):
    """The calls left and blocked, by whether the stage is sent or in a rack."""
    return counted(numbers_of([tyre for tyre in house.tyres if tyre.stage == stage and is_recalled(house, tyre)]))


def list_rack(house, rack_number):
    """The call stock."""
    if lacks_rack(house, rack_number):
        return [NO_SUCH]
    return [room_left(house, rack_number)] + numbers_of(tyres_held(house, IN_RACK, rack_number))


def list_with(house, place, value):
    """The call with."""
    if is_no_mark(place, value):
        return [OUT_OF_RANGE]
    return counted(numbers_of(tyres_with(house, place, value)))


def list_sent_to(house, customer):
    """The call sentto."""
    if customer > HIGHEST_CUSTOMER:
        return [OUT_OF_RANGE]
    return counted(numbers_of(tyres_held(house, SENT, customer)))


def tell_next(house):
    """The call next."""
    sendable = sendable_tyres(house)
    if len(sendable) == 0:
        return [NONE_THERE]
    tyre = oldest_tyre(sendable)
    return [tyre.number, tyre.holder, tyre.marks[WEEK_PLACE]]

"""The calls send, oldest, claim, back, recall and lift."""

from recalltyres.refusals import (
    IS_RECALLED,
    NO_SUCH,
    NONE_THERE,
    NOT_SO,
    OUT_OF_RANGE,
    SO_ALREADY,
    TOO_MANY,
)
from recalltyres.warehouse import (
    COME_BACK,
    HIGHEST_CUSTOMER,
    IN_RACK,
    SENT,
    WEEK_PLACE,
    claimed_tyres,
    count_at_stage,
    has_mark,
    is_no_mark,
    is_recalled,
    lacks_tyre,
    tyres_with,
)

MOST_CLAIMS = 20
MOST_RECALLS = 10


def hand_over(house, tyre, customer):
    """Sends the tyre today; answers in which rack it was."""
    left_rack = tyre.holder
    tyre.stage = SENT
    tyre.holder = customer
    tyre.since = house.day
    return left_rack


def send_tyre(house, number, customer):
    """The call send."""
    if lacks_tyre(house, number):
        return [NO_SUCH]
    if customer > HIGHEST_CUSTOMER:
        return [OUT_OF_RANGE]
    tyre = house.tyres[number]
    if tyre.stage != IN_RACK:
        return [NOT_SO]
    if is_recalled(house, tyre):
        return [IS_RECALLED]
    return [hand_over(house, tyre, customer)]


def sendable_tyres(house):
    """The tyres in racks that aren't recalled, by rising number."""
    return [tyre for tyre in house.tyres if tyre.stage == IN_RACK and not is_recalled(house, tyre)]


def oldest_tyre(tyres):
    """The oldest of these tyres, whose numbers rise and which are not none."""
    best = tyres[0]
    for tyre in tyres:
        # Only a lesser week wins: of alike weeks the lesser number, met first, stays.
        if tyre.marks[WEEK_PLACE] < best.marks[WEEK_PLACE]:
            best = tyre
    return best


def send_oldest(house, place, value, customer):
    """The call oldest."""
    if is_no_mark(place, value) or customer > HIGHEST_CUSTOMER:
        return [OUT_OF_RANGE]
    fitting = [tyre for tyre in sendable_tyres(house) if has_mark(tyre, place, value)]
    if len(fitting) == 0:
        return [NONE_THERE]
    tyre = oldest_tyre(fitting)
    return [tyre.number, hand_over(house, tyre, customer)]


def claim_tyre(house, number):
    """The call claim."""
    if lacks_tyre(house, number):
        return [NO_SUCH]
    tyre = house.tyres[number]
    if tyre.stage == IN_RACK:
        return [NOT_SO]
    if tyre.claimed:
        return [SO_ALREADY]
    if len(claimed_tyres(house)) >= MOST_CLAIMS:
        return [TOO_MANY]
    tyre.claimed = True
    return [len(claimed_tyres(house))]


def take_back(house, number):
    """The call back."""
    if lacks_tyre(house, number):
        return [NO_SUCH]
    tyre = house.tyres[number]
    if tyre.stage != SENT:
        return [NOT_SO]
    tyre.stage = COME_BACK
    return [tyre.holder, house.day - tyre.since]


def recall_mark(house, place, value):
    """The call recall."""
    if is_no_mark(place, value):
        return [OUT_OF_RANGE]
    if (place, value) in house.recalled:
        return [SO_ALREADY]
    if len(house.recalled) >= MOST_RECALLS:
        return [TOO_MANY]
    house.recalled.append((place, value))
    affected = tyres_with(house, place, value)
    return [count_at_stage(affected, SENT), count_at_stage(affected, IN_RACK)]


def lift_mark(house, place, value):
    """The call lift."""
    if is_no_mark(place, value):
        return [OUT_OF_RANGE]
    if (place, value) not in house.recalled:
        return [NO_SUCH]
    house.recalled.remove((place, value))
    return [len(house.recalled)]

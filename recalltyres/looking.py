"""The calls look, sums and state."""

from recalltyres.refusals import NO_SUCH
from recalltyres.warehouse import (
    COME_BACK,
    IN_RACK,
    SENT,
    claimed_tyres,
    count_at_stage,
    is_recalled,
    lacks_tyre,
)


def look_at_tyre(house, number):
    """The call look."""
    if lacks_tyre(house, number):
        return [NO_SUCH]
    tyre = house.tyres[number]
    claimed = 1 if tyre.claimed else 0
    recalled = 1 if is_recalled(house, tyre) else 0
    return [tyre.stage, tyre.holder, tyre.since, claimed, recalled] + tyre.marks


def tell_sums(house):
    """The call sums."""
    stages = [count_at_stage(house.tyres, stage) for stage in (IN_RACK, SENT, COME_BACK)]
    return [0] + stages + [len(claimed_tyres(house))]


def tell_state(house):
    """The call state."""
    return [house.day, len(house.sizes), len(house.tyres), len(house.recalled)]

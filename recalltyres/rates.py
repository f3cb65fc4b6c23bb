"""The calls rate and worst: how great a part of the sent tyres with a mark is claimed."""

from recalltyres.refusals import NONE_THERE, OUT_OF_RANGE
from recalltyres.warehouse import is_no_mark, marks_of, tyres_with, was_sent


def mark_counts(house, place, value):
    """How many tyres with the mark are claimed, how many were sent, how many there are."""
    having = tyres_with(house, place, value)
    claimed = [tyre for tyre in having if tyre.claimed]
    out = [tyre for tyre in having if was_sent(tyre)]
    return [len(claimed), len(out), len(having)]


def rate_of_mark(house, place, value):
    """The call rate."""
    if is_no_mark(place, value):
        return [OUT_OF_RANGE]
    return mark_counts(house, place, value)


def rated_marks(house, least):
    """The marks of which so many or more, not 0, were sent; in order, with how many are claimed and were sent."""
    rated = []
    for mark in marks_of(house.tyres):
        counts = mark_counts(house, mark[0], mark[1])
        if counts[1] >= least:
            rated.append([mark[0], mark[1], counts[0], counts[1]])
    return rated


def worst_mark(house, least):
    """The call worst."""
    if least == 0:
        return [OUT_OF_RANGE]
    rated = rated_marks(house, least)
    if len(rated) == 0:
        return [NONE_THERE]
    best = rated[0]
    for row in rated:
        # Products compare two parts exactly; only a greater part wins: of alike ones the first in order stays.
        if row[2] * best[3] > best[2] * row[3]:
            best = row
    return best

"""The calls common and narrow: which marks the claimed tyres share."""

from recalltyres.refusals import NONE_FITS, NONE_THERE
from recalltyres.warehouse import PLACES, claimed_tyres, has_mark, tyres_with


def have_all(tyres, place, value):
    """Whether each of these tyres has the mark."""
    return all([has_mark(tyre, place, value) for tyre in tyres])


def shared_marks(claimed):
    """The marks that all claimed tyres have, in order; there must be a claimed one."""
    # A tyre has one value at each place, so what all share stands among the first one's marks.
    values = claimed[0].marks
    return [(place, values[place]) for place in range(PLACES) if have_all(claimed, place, values[place])]


def common_marks(house):
    """The call common."""
    claimed = claimed_tyres(house)
    if len(claimed) == 0:
        return [NONE_THERE]
    shared = shared_marks(claimed)
    told = [len(shared)]
    for mark in shared:
        told.extend([mark[0], mark[1]])
    return told


def count_with(house, mark):
    """How many tyres have the mark."""
    return len(tyres_with(house, mark[0], mark[1]))


def narrowest_mark(house):
    """The call narrow."""
    claimed = claimed_tyres(house)
    if len(claimed) == 0:
        return [NONE_THERE]
    shared = shared_marks(claimed)
    if len(shared) == 0:
        return [NONE_FITS]
    best = shared[0]
    for mark in shared:
        # Only fewer tyres win: of alike marks the first in order stays.
        if count_with(house, mark) < count_with(house, best):
            best = mark
    return [best[0], best[1], count_with(house, best)]

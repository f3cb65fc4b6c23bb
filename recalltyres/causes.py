"""The calls common, narrow and two: which marks the claimed tyres share, and which two explain the claims."""

from recalltyres.refusals import NONE_FITS, NONE_THERE
from recalltyres.warehouse import PLACES, claimed_tyres, has_any, has_mark, marks_of, tyres_with


def have_all(tyres, place, value):
    """Whether each of these tyres has the mark."""
    return all([has_mark(tyre, place, value) for tyre in tyres])


def shared_marks(tyres):
    """The marks that all of these tyres have, in order; the tyres must not be none."""
    # A tyre has one value at each place, so what all share stands among the first one's marks.
    values = tyres[0].marks
    return [(place, values[place]) for place in range(PLACES) if have_all(tyres, place, values[place])]


def common_marks(house):
    """The call common."""
    claimed = claimed_tyres(house)
    if len(claimed) == 0:
        return [NONE_THERE]
    shared = shared_marks(claimed)
    told = [len(shared)]
    for mark in shared:
        told.extend([mark[0], mark[1]])
    return told


def count_with(house, mark):
    """How many tyres have the mark."""
    return len(tyres_with(house, mark[0], mark[1]))


def narrowest_mark(house):
    """The call narrow."""
    claimed = claimed_tyres(house)
    if len(claimed) == 0:
        return [NONE_THERE]
    shared = shared_marks(claimed)
    if len(shared) == 0:
        return [NONE_FITS]
    best = shared[0]
    for mark in shared:
        # Only fewer tyres win: of alike marks the first in order stays.
        if count_with(house, mark) < count_with(house, best):
            best = mark
    return [best[0], best[1], count_with(house, best)]


def second_marks(claimed, first):
    """The marks that may stand second beside the first one, so that both explain the claims."""
    others = [tyre for tyre in claimed if not has_mark(tyre, first[0], first[1])]
    if len(others) == 0:
        # It explains them alone, and with another mark beside it the tyres are never fewer.
        return [first]
    return shared_marks(others)


def explaining_pairs(claimed):
    """The pairs of marks that explain the claims and may be the two, in order."""
    pairs = []
    for first in marks_of(claimed):
        pairs.extend([(first, second) for second in second_marks(claimed, first)])
    return pairs


def count_with_either(house, pair):
    """How many tyres have one of the two marks, or both."""
    return len([tyre for tyre in house.tyres if has_any(tyre, pair)])


def explaining_marks(house):
    """The call two."""
    claimed = claimed_tyres(house)
    if len(claimed) == 0:
        return [NONE_THERE]
    pairs = explaining_pairs(claimed)
    if len(pairs) == 0:
        return [NONE_FITS]
    best = pairs[0]
    fewest = count_with_either(house, best)
    for pair in pairs:
        count = count_with_either(house, pair)
        # Only fewer tyres win: of alike pairs the first in order stays.
        if count < fewest:
            best = pair
            fewest = count
    return [fewest, best[0][0], best[0][1], best[1][0], best[1][1]]

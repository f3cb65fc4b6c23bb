"""The interface: calls told in one list of whole numbers, answered in one list."""

from recalltyres.causes import common_marks, narrowest_mark
from recalltyres.refusals import NOT_BEGUN
from recalltyres.sending import claim_tyre, lift_mark, recall_mark, send_oldest, send_tyre, take_back
from recalltyres.stocking import add_rack, move_tyre, pass_days, put_tyre
from recalltyres.warehouse import Warehouse

BEGIN = 0
RACK = 1
PUT = 2
MOVE = 3
SEND = 4
OLDEST = 5
DAYS = 6
CLAIM = 7
BACK = 8
RECALL = 9
LIFT = 10
COMMON = 11
NARROW = 12

# By the number of a call, how many whole numbers it has ahead of its row.
ARGUMENTS = (0, 1, 1, 2, 2, 3, 1, 1, 1, 2, 2, 0, 0, 0, 2, 1, 2, 0, 0, 1, 2, 1, 0, 1, 0, 0)


class NotBuilt(NotImplementedError):
    """The call is one of the document's, and isn't written yet."""


def call_end(calls, start):
    """Where the call that begins at start ends."""
    number = calls[start]
    end = start + 1 + ARGUMENTS[number]
    if number == PUT:
        end += 1 + calls[end]
    return end


def answer_stocking(house, call):
    """Answers one of the calls rack, put, move and days."""
    if call[0] == RACK:
        return add_rack(house, call[1])
    if call[0] == PUT:
        return put_tyre(house, call[1], call[3:])
    if call[0] == MOVE:
        return move_tyre(house, call[1], call[2])
    return pass_days(house, call[1])


def answer_sending(house, call):
    """Answers one of the calls send, oldest, claim, back, recall and lift."""
    if call[0] == SEND:
        return send_tyre(house, call[1], call[2])
    if call[0] == OLDEST:
        return send_oldest(house, call[1], call[2], call[3])
    if call[0] == CLAIM:
        return claim_tyre(house, call[1])
    if call[0] == BACK:
        return take_back(house, call[1])
    if call[0] == RECALL:
        return recall_mark(house, call[1], call[2])
    return lift_mark(house, call[1], call[2])


def answer_call(house, call):
    """Answers one call other than begin, on a warehouse that is begun."""
    if call[0] in (RACK, PUT, MOVE, DAYS):
        return answer_stocking(house, call)
    if call[0] in (SEND, OLDEST, CLAIM, BACK, RECALL, LIFT):
        return answer_sending(house, call)
    if call[0] == COMMON:
        return common_marks(house)
    if call[0] == NARROW:
        return narrowest_mark(house)
    raise NotBuilt("this call is not built yet")


def answers(calls):
    """Answers the calls in order, each with how many numbers it answers ahead of them."""
    house = None
    told = []
    start = 0
    while start < len(calls):
        end = call_end(calls, start)
        if calls[start] == BEGIN:
            house = Warehouse()
            answer = [0]
        elif house is None:
            answer = [NOT_BEGUN]
        else:
            answer = answer_call(house, calls[start:end])
        told.append(len(answer))
        told.extend(answer)
        start = end
    return told

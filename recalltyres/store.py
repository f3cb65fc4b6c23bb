"""The interface: calls told in one list of whole numbers, answered in one list."""

from recalltyres.causes import common_marks, explaining_marks, narrowest_mark
from recalltyres.listing import list_customers, list_rack, list_recalled, list_sent_to, list_with, tell_next
from recalltyres.looking import look_at_tyre, tell_state, tell_sums
from recalltyres.rates import rate_of_mark, worst_mark
from recalltyres.refusals import NOT_BEGUN
from recalltyres.sending import claim_tyre, lift_mark, recall_mark, send_oldest, send_tyre, take_back
from recalltyres.stocking import add_rack, move_tyre, pass_days, put_tyre
from recalltyres.warehouse import IN_RACK, SENT, Warehouse

BEGIN = 0
RACK = 1
PUT = 2
MOVE = 3
SEND = 4
OLDEST = 5
DAYS = 6
CLAIM = 7
BACK = 8
RECALL = 9
LIFT = 10
COMMON = 11
NARROW = 12
TWO = 13
RATE = 14
WORST = 15
WHO = 16
LEFT = 17
BLOCKED = 18
STOCK = 19
WITH = 20
SENT_TO = 21
NEXT = 22
LOOK = 23
SUMS = 24
STATE = 25

# By the number of a call, how many whole numbers it has ahead of its row.
ARGUMENTS = (0, 1, 1, 2, 2, 3, 1, 1, 1, 2, 2, 0, 0, 0, 2, 1, 2, 0, 0, 1, 2, 1, 0, 1, 0, 0)


def call_end(calls, start):
    """Where the call that begins at start ends."""
    number = calls[start]
    end = start + 1 + ARGUMENTS[number]
    if number == PUT:
        end += 1 + calls[end]
    return end


def answer_stocking(house, call):
    """Answers one of the calls rack, put, move and days."""
    if call[0] == RACK:
        return add_rack(house, call[1])
    if call[0] == PUT:
        return put_tyre(house, call[1], call[3:])
    if call[0] == MOVE:
        return move_tyre(house, call[1], call[2])
    return pass_days(house, call[1])


def answer_sending(house, call):
    """Answers one of the calls send, oldest, claim, back, recall and lift."""
    if call[0] == SEND:
        return send_tyre(house, call[1], call[2])
    if call[0] == OLDEST:
        return send_oldest(house, call[1], call[2], call[3])
    if call[0] == CLAIM:
        return claim_tyre(house, call[1])
    if call[0] == BACK:
        return take_back(house, call[1])
    if call[0] == RECALL:
        return recall_mark(house, call[1], call[2])
    return lift_mark(house, call[1], call[2])


def answer_causes(house, call):
    """Answers one of the calls common, narrow, two, rate and worst."""
    if call[0] == COMMON:
        return common_marks(house)
    if call[0] == NARROW:
        return narrowest_mark(house)
    if call[0] == TWO:
        return explaining_marks(house)
    if call[0] == RATE:
        return rate_of_mark(house, call[1], call[2])
    return worst_mark(house, call[1])


def answer_listing(house, call):
    """Answers one of the calls who, left, blocked, stock, with, sentto and next."""
    if call[0] == WHO:
        return list_customers(house, call[1], call[2])
    if call[0] == LEFT:
        return list_recalled(house, SENT)
    if call[0] == BLOCKED:
        return list_recalled(house, IN_RACK)
    if call[0] == STOCK:
        return list_rack(house, call[1])
    if call[0] == WITH:
        return list_with(house, call[1], call[2])
    if call[0] == SENT_TO:
        return list_sent_to(house, call[1])
    return tell_next(house)


def answer_looking(house, call):
    """Answers one of the calls look, sums and state."""
    if call[0] == LOOK:
        return look_at_tyre(house, call[1])
    if call[0] == SUMS:
        return tell_sums(house)
    return tell_state(house)


def answer_call(house, call):
    """Answers one call other than begin, on a warehouse that is begun."""
    if call[0] in (RACK, PUT, MOVE, DAYS):
        return answer_stocking(house, call)
    if call[0] in (SEND, OLDEST, CLAIM, BACK, RECALL, LIFT):
        return answer_sending(house, call)
    if call[0] in (COMMON, NARROW, TWO, RATE, WORST):
        return answer_causes(house, call)
    if call[0] in (LOOK, SUMS, STATE):
        return answer_looking(house, call)
    return answer_listing(house, call)


def answers(calls):
    """Answers the calls in order, each with how many numbers it answers ahead of them."""
    house = None
    told = []
    start = 0
    while start < len(calls):
        end = call_end(calls, start)
        if calls[start] == BEGIN:
            house = Warehouse()
            answer = [0]
        elif house is None:
            answer = [NOT_BEGUN]
        else:
            answer = answer_call(house, calls[start:end])
        told.append(len(answer))
        told.extend(answer)
        start = end
    return told

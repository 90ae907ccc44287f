"""The way in: a list of calls is answered by a list of whole numbers."""

from tickdesign.feedback import observe_answer
from tickdesign.feedback import place_answer
from tickdesign.refusals import NoMatrix
from tickdesign.refusals import NotFitting
from tickdesign.refusals import NotPossible
from tickdesign.settling import settles_answer
from tickdesign.signals import response_answer
from tickdesign.states import realize_answer
from tickdesign.states import transfer_answer
from tickdesign.transfers import join_answer
from tickdesign.transfers import plain_answer
from tickdesign.transfers import tustin_answer

CALL_PLAIN = 1
CALL_JOIN = 2
CALL_TUSTIN = 3
CALL_RESPONSE = 4
CALL_PLACE = 5
CALL_OBSERVE = 6
CALL_REALIZE = 7
CALL_TRANSFER = 8
# By a call's number: how many whole numbers it has, and how many lists behind them.
LAYOUTS = {1: (0, 1), 2: (1, 2), 3: (2, 1), 4: (0, 2), 5: (0, 3), 6: (0, 3), 7: (0, 1), 8: (0, 4), 9: (0, 1)}


def answers(calls):
    told = []
    at = 0
    while at < len(calls):
        call = calls[at]
        layout = LAYOUTS[call]
        start = at + 1 + layout[0]
        numbers = calls[at + 1:start]
        lists = read_lists(calls, start, layout[1])
        answer = answer_of(call, numbers, lists)
        told.append(len(answer))
        told.extend(answer)
        at = start + len(lists) + sum([len(one) for one in lists])
    return told


# As many lists as wanted, each with its length before it.
def read_lists(calls, start, wanted):
    lists = []
    at = start
    while len(lists) < wanted:
        behind = at + 1 + calls[at]
        lists.append(calls[at + 1:behind])
        at = behind
    return lists


def answer_of(call, numbers, lists):
    try:
        return [0] + told_by(call, numbers, lists)
    except NoMatrix:
        return [-6]
    except NotFitting:
        return [-1]
    except NotPossible:
        return [-4]


def told_by(call, numbers, lists):
    if call == CALL_PLAIN:
        return plain_answer(lists[0])
    if call == CALL_JOIN:
        return join_answer(numbers[0], lists[0], lists[1])
    if call == CALL_TUSTIN:
        return tustin_answer(numbers[0], numbers[1], lists[0])
    if call == CALL_RESPONSE:
        return response_answer(lists[0], lists[1])
    if call == CALL_PLACE:
        return place_answer(lists[0], lists[1], lists[2])
    if call == CALL_OBSERVE:
        return observe_answer(lists[0], lists[1], lists[2])
    if call == CALL_REALIZE:
        return realize_answer(lists[0])
    if call == CALL_TRANSFER:
        return transfer_answer(lists[0], lists[1], lists[2], lists[3])
    return settles_answer(lists[0])

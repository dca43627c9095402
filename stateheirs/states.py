"""Answers a list of calls, one behind another, on one new object."""

from stateheirs.changes import su_follow, su_join, su_leave, su_owe, su_part, su_pay, su_sign, su_start
from stateheirs.descent import su_from, su_heirs, su_kin, su_line
from stateheirs.questions import su_bound, su_common, su_could, su_debt, su_state
from stateheirs.questions import su_total, su_treaties, su_whole, su_would
from stateheirs.record import Record
from stateheirs.taking_back import su_again, su_back

# How many numbers stand behind a call's own number, which is the place in this row.
SIZES = (2, 2, 2, 2, 2, 4, 3, 2, 1, 1, 2, 1, 0, 1, 1, 1, 2, 1, 1, 3, 0, 0, 0)
LAST_CHANGE = 7
LAST_OF_TREATIES_AND_DEBTS = 12
LAST_OF_DESCENT = 16


def make_change(record, number, given):
    if number == 1:
        return su_sign(record, given[0], given[1])
    if number == 2:
        return su_leave(record, given[0], given[1])
    if number == 3:
        return su_owe(record, given[0], given[1])
    if number == 4:
        return su_pay(record, given[0], given[1])
    if number == 5:
        return su_part(record, given[0], given[1], given[2], given[3])
    if number == 6:
        return su_join(record, given[0], given[1], given[2])
    return su_follow(record, given[0], given[1])


def answer_change(record, number, given):
    """The states are copied ahead: only the answer tells whether there was a change."""
    before = record.copied_states()
    answered = make_change(record, number, given)
    if answered[0] >= 0:
        record.keep_change(before)
    return answered


def answer_of_treaties_and_debts(record, number, given):
    if number == 8:
        return su_treaties(record, given[0])
    if number == 9:
        return su_bound(record, given[0])
    if number == 10:
        return su_common(record, given[0], given[1])
    if number == 11:
        return su_debt(record, given[0])
    return su_total(record)


def answer_of_descent(record, number, given):
    if number == 13:
        return su_from(record, given[0])
    if number == 14:
        return su_line(record, given[0])
    if number == 15:
        return su_heirs(record, given[0])
    return su_kin(record, given[0], given[1])


def answer_the_rest(record, number, given):
    if number == 17:
        return su_whole(record, given[0])
    if number == 18:
        return su_could(record, given[0])
    if number == 19:
        return su_would(record, given[0], given[1], given[2])
    if number == 20:
        return su_back(record)
    if number == 21:
        return su_again(record)
    return su_state(record)


def answer_call(record, number, given):
    if number == 0:
        return su_start(record, given[0], given[1])
    if number <= LAST_CHANGE:
        return answer_change(record, number, given)
    if number <= LAST_OF_TREATIES_AND_DEBTS:
        return answer_of_treaties_and_debts(record, number, given)
    if number <= LAST_OF_DESCENT:
        return answer_of_descent(record, number, given)
    return answer_the_rest(record, number, given)


def answers(calls):
    record = Record()
    told = []
    place = 0
    while place < len(calls):
        number = calls[place]
        end = place + 1 + SIZES[number]
        answered = answer_call(record, number, calls[place + 1:end])
        told.append(len(answered))
        told.extend(answered)
        place = end
    return told

"""Answers a list of calls, one behind another, on one new object."""

from stateheirs.changes import su_follow, su_join, su_leave, su_owe, su_part, su_pay, su_sign, su_start
from stateheirs.questions import su_bound, su_common, su_debt, su_treaties
from stateheirs.record import Record

# How many numbers stand behind a call's own number, which is the place in this row.
SIZES = (2, 2, 2, 2, 2, 4, 3, 2, 1, 1, 2, 1)
LAST_CHANGE = 7


def answer_change(record, number, given):
    if number == 0:
        return su_start(record, given[0], given[1])
    if number == 1:
        return su_sign(record, given[0], given[1])
    if number == 2:
        return su_leave(record, given[0], given[1])
    if number == 3:
        return su_owe(record, given[0], given[1])
    if number == 4:
        return su_pay(record, given[0], given[1])
    if number == 5:
        return su_part(record, given[0], given[1], given[2], given[3])
    if number == 6:
        return su_join(record, given[0], given[1], given[2])
    return su_follow(record, given[0], given[1])


def answer_question(record, number, given):
    if number == 8:
        return su_treaties(record, given[0])
    if number == 9:
        return su_bound(record, given[0])
    if number == 10:
        return su_common(record, given[0], given[1])
    return su_debt(record, given[0])


def answer_call(record, number, given):
    if number <= LAST_CHANGE:
        return answer_change(record, number, given)
    return answer_question(record, number, given)


def answers(calls):
    record = Record()
    told = []
    place = 0
    while place < len(calls):
        number = calls[place]
        end = place + 1 + SIZES[number]
        answered = answer_call(record, number, calls[place + 1:end])
        told.append(len(answered))
        told.extend(answered)
        place = end
    return told

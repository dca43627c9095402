"""The calls that only ask: each gives back the numbers that it answers."""

from stateheirs.record import how_many
from stateheirs.refusals import THERE_IS_NONE, WRONG_NUMBER


def su_treaties(record, i):
    if not record.has_state(i):
        return [THERE_IS_NONE]
    state = record.states[i]
    return [how_many(state.bound), state.bound, state.may_follow]


def su_bound(record, t):
    if not record.has_treaty(t):
        return [THERE_IS_NONE]
    many = record.who_is_bound(t)
    return [how_many(many), many]


def su_common(record, i, j):
    if not record.has_state(i) or not record.has_state(j):
        return [THERE_IS_NONE]
    if i == j:
        return [WRONG_NUMBER]
    both = record.states[i].bound & record.states[j].bound
    return [how_many(both), both]


def su_debt(record, i):
    if not record.has_state(i):
        return [THERE_IS_NONE]
    return [record.states[i].owes]

"""The start, and the calls that are changes: each gives back the numbers that it answers."""

from stateheirs.limits import MOST_OWED, wrong_mode, wrong_parts, wrong_start, wrong_units
from stateheirs.record import how_many, is_in, with_one, without_one
from stateheirs.refusals import BOUND_ALREADY, NO_MORE_STATES, NOT_SO, OWES_LESS
from stateheirs.refusals import THERE_IS_NONE, TOO_MUCH_OWED, WRONG_NUMBER


def su_start(record, n, t):
    if wrong_start(n, t):
        return [WRONG_NUMBER]
    record.begin(n, t)
    return [0]


def su_sign(record, i, t):
    if not record.has_state(i) or not record.has_treaty(t):
        return [THERE_IS_NONE]
    state = record.states[i]
    if is_in(t, state.bound):
        return [BOUND_ALREADY]
    state.bound = with_one(t, state.bound)
    return [how_many(state.bound)]


def su_leave(record, i, t):
    if not record.has_state(i) or not record.has_treaty(t):
        return [THERE_IS_NONE]
    state = record.states[i]
    if not is_in(t, state.bound):
        return [NOT_SO]
    state.bound = without_one(t, state.bound)
    return [how_many(state.bound)]


def su_owe(record, i, x):
    if not record.has_state(i):
        return [THERE_IS_NONE]
    if wrong_units(x):
        return [WRONG_NUMBER]
    if record.total_debt() + x > MOST_OWED:
        return [TOO_MUCH_OWED]
    state = record.states[i]
    state.owes = state.owes + x
    return [state.owes]


def su_pay(record, i, x):
    if not record.has_state(i):
        return [THERE_IS_NONE]
    if wrong_units(x):
        return [WRONG_NUMBER]
    state = record.states[i]
    if state.owes < x:
        return [OWES_LESS]
    state.owes = state.owes - x
    return [state.owes]


def su_part(record, i, mode, p, q):
    if not record.has_state(i):
        return [THERE_IS_NONE]
    if wrong_mode(mode) or wrong_parts(p, q):
        return [WRONG_NUMBER]
    if record.is_full():
        return [NO_MORE_STATES]
    return [record.part(i, mode, p, q)]


def su_join(record, i, j, mode):
    if not record.has_state(i) or not record.has_state(j):
        return [THERE_IS_NONE]
    if i == j or wrong_mode(mode):
        return [WRONG_NUMBER]
    record.take_up(i, j, mode)
    return [how_many(record.who_is_there())]


def su_follow(record, i, t):
    """What is followed may still be followed: the state can leave it and follow it again."""
    if not record.has_state(i) or not record.has_treaty(t):
        return [THERE_IS_NONE]
    state = record.states[i]
    if not is_in(t, state.may_follow):
        return [NOT_SO]
    if is_in(t, state.bound):
        return [BOUND_ALREADY]
    state.bound = with_one(t, state.bound)
    return [how_many(state.bound)]

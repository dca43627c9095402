"""The calls that only ask of treaties, debts and all together: each gives back the numbers that it answers."""

from stateheirs.limits import wrong_parts
from stateheirs.record import how_many, kept_share
from stateheirs.refusals import THERE_IS_NONE, WRONG_NUMBER


def su_treaties(record, i):
    if not record.has_state(i):
        return [THERE_IS_NONE]
    state = record.states[i]
    return [how_many(state.bound), state.bound, state.may_follow]


def su_bound(record, t):
    if not record.has_treaty(t):
        return [THERE_IS_NONE]
    many = record.who_is_bound(t)
    return [how_many(many), many]


def su_common(record, i, j):
    if not record.has_state(i) or not record.has_state(j):
        return [THERE_IS_NONE]
    if i == j:
        return [WRONG_NUMBER]
    both = record.states[i].bound & record.states[j].bound
    return [how_many(both), both]


def su_debt(record, i):
    if not record.has_state(i):
        return [THERE_IS_NONE]
    return [record.states[i].owes]


def su_total(record):
    return [record.total_debt(), how_many(record.who_is_there())]


def su_whole(record, t):
    if not record.has_treaty(t):
        return [THERE_IS_NONE]
    return [1 if record.who_is_bound(t) == record.who_is_there() else 0]


def su_could(record, i):
    if not record.has_state(i):
        return [THERE_IS_NONE]
    state = record.states[i]
    could = state.may_follow & ~state.bound
    return [how_many(could), could]


def su_would(record, i, p, q):
    """That there may be no room for a new state is not looked at: nothing parts here."""
    if not record.has_state(i):
        return [THERE_IS_NONE]
    if wrong_parts(p, q):
        return [WRONG_NUMBER]
    owes = record.states[i].owes
    kept = kept_share(owes, p, q)
    return [kept, owes - kept]


def su_state(record):
    return [len(record.states), record.treaties, record.who_is_there(), len(record.earlier), len(record.undone)]

"""The calls that ask of whom a state came and who came of it; states that are gone are asked of too."""

from stateheirs.record import how_many
from stateheirs.refusals import THERE_IS_NONE


def one_more(number):
    """Room is made for nobody, who is told as 0."""
    return 0 if number is None else number + 1


def su_from(record, i):
    if not record.had_state(i):
        return [THERE_IS_NONE]
    state = record.states[i]
    return [one_more(state.parted_from), one_more(state.taken_by)]


def su_line(record, i):
    if not record.had_state(i):
        return [THERE_IS_NONE]
    many = record.line(i)
    return [how_many(many), many]


def su_heirs(record, i):
    if not record.had_state(i):
        return [THERE_IS_NONE]
    many = record.heirs(i)
    return [how_many(many), many]


def su_kin(record, i, j):
    if not record.had_state(i) or not record.had_state(j):
        return [THERE_IS_NONE]
    return [1 if record.line(i) & record.line(j) != 0 else 0]

"""The calls that take changes back and do them again: each gives back the numbers that it answers."""

from stateheirs.refusals import THERE_IS_NONE


def su_back(record):
    if len(record.earlier) == 0:
        return [THERE_IS_NONE]
    record.take_back()
    return [len(record.earlier)]


def su_again(record):
    if len(record.undone) == 0:
        return [THERE_IS_NONE]
    record.do_again()
    return [len(record.undone)]

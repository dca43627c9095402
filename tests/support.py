"""Calls by their names, answers call by call, and a picture of all that can be asked."""

import unittest

from stateheirs.states import answers

NAMES = ("start", "sign", "leave", "owe", "pay", "part", "join", "follow", "treaties", "bound", "common", "debt",
         "total", "from", "line", "heirs", "kin", "whole", "could", "would", "back", "again", "state")
CHANGES = NAMES[1:8]
HUGE = 4294967295
ALL_STATES = range(12)
ALL_TREATIES = range(8)


def flat(calls):
    numbers = []
    for call in calls:
        numbers.append(NAMES.index(call[0]))
        numbers.extend(call[1:])
    return numbers


def split(told):
    rows = []
    place = 0
    while place < len(told):
        end = place + 1 + told[place]
        if end > len(told):
            raise ValueError("an answer is cut off")
        rows.append(told[place + 1:end])
        place = end
    return rows


def run(calls):
    numbers = flat(calls)
    if len(calls) > 1000 or len(numbers) > 5000:
        raise ValueError("no such list is handed in")
    rows = split(answers(numbers))
    if len(rows) != len(calls):
        raise ValueError("not one answer a call")
    return rows


def last(calls):
    return run(calls)[-1]


def told(some):
    return sum(2 ** k for k in some)


def members(many):
    return {k for k in range(32) if many >> k & 1}


def picture_calls():
    asked = [("total",), ("state",)]
    for name in ("treaties", "could", "debt", "from", "line", "heirs"):
        asked += [(name, i) for i in ALL_STATES]
    for name in ("bound", "whole"):
        asked += [(name, t) for t in ALL_TREATIES]
    for name in ("common", "kin"):
        asked += [(name, i, j) for i in ALL_STATES for j in ALL_STATES]
    return asked + [("would", i, 2, 5) for i in ALL_STATES]


def picture(calls):
    """All that can be asked behind these calls, and its answers."""
    return dict(zip(picture_calls(), run(list(calls) + picture_calls())[len(calls):]))


def but_for_changes(seen):
    """A picture without how many changes can be taken back or done again."""
    return {call: row[:3] if call == ("state",) else row for call, row in seen.items()}


class CallsTest(unittest.TestCase):
    def answers_last(self, calls, wanted):
        self.assertEqual(last(calls), wanted, calls)

    def answers_each(self, calls, wanted):
        """Behind the same calls each of these is asked alone."""
        for call, row in wanted.items():
            self.assertEqual(last(list(calls) + [call]), row, (calls, call))

    def refuses(self, calls, call, number):
        """The refusal is its number alone, and leaves all as it was."""
        self.assertEqual(last(list(calls) + [call]), [number], (calls, call))
        self.assertEqual(picture(calls), picture(list(calls) + [call]), (calls, call))

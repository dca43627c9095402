"""What holds, over long lists of calls of every kind: taken back all is as it was."""

import unittest

from stateheirs.states import answers
from tests.seen import Seen, SeenTest
from tests.support import CHANGES, NAMES, but_for_changes, flat, picture, picture_calls, run
from tests.walks import Standing, walk_of_all

LISTS = 16
LONG = 1000
# Behind so many calls there is just room for all that can be asked.
ROOM = LONG - len(picture_calls())


def asked_alone(standing, question):
    """What the question answers behind the changes that stand, and behind nothing else."""
    return run(standing.calls + [question])[-1]


class LongListsTest(SeenTest):
    @classmethod
    def setUpClass(cls):
        cls.lists = [walk_of_all(seed, LONG) for seed in range(LISTS)]
        cls.rows = [run(calls) for calls in cls.lists]

    def steps(self):
        """(what stands ahead, call, its answer) of every call of every list."""
        for calls, rows in zip(self.lists, self.rows):
            standing = Standing()
            for call, answer in zip(calls, rows):
                yield standing, call, answer
                standing.see(call, answer)

    def test_lists_reach_all(self):
        self.assertEqual({len(calls) for calls in self.lists}, {LONG})
        answered = {}
        for standing, call, answer in self.steps():
            answered.setdefault(call[0], set()).add(min(answer[0], 0))
        self.assertEqual(set(answered), set(NAMES))
        for name in NAMES:
            self.assertIn(0, answered[name])
            self.assertEqual(-2 in answered[name], name not in ("start", "total", "state"), name)
        reached = {(call[0], standing.reach) for standing, call, answer in self.steps()}
        self.assertLessEqual({("back", 0), ("back", 20), ("again", 0), ("state", 20)}, reached)

    def test_back_and_again_are_counted(self):
        for standing, call, answer in self.steps():
            back, again = standing.counted()
            if call[0] == "back":
                self.assertEqual(answer, [back - 1] if back > 0 else [-2])
            elif call[0] == "again":
                self.assertEqual(answer, [again - 1] if again > 0 else [-2])
            elif call[0] == "state":
                self.assertEqual(answer[3:], [back, again])

    def test_only_what_stands_is_seen(self):
        for standing, call, answer in self.steps():
            if call[0] == "state":
                self.assertEqual(answer[:3], asked_alone(standing, call)[:3])
            elif call[0] not in ("start", "back", "again"):
                self.assertEqual(answer, asked_alone(standing, call), call)

    def test_taken_back_all_is_as_it_was(self):
        """The whole picture, at places all along the lists."""
        for calls, rows in zip(self.lists, self.rows):
            standing = Standing()
            for k, call in enumerate(calls[:ROOM]):
                standing.see(call, rows[k])
                if call[0] in ("back", "again") and rows[k][0] >= 0 and k % 3 == 0:
                    self.assertEqual(but_for_changes(picture(calls[:k + 1])), but_for_changes(picture(standing.calls)))

    def test_nothing_lost_nothing_made(self):
        """What is owed in all is what was borrowed and not paid, in the changes that stand."""
        for standing, call, answer in self.steps():
            if call[0] == "total":
                wanted = sum({"owe": 1, "pay": -1}.get(one[0], 0) * one[2] for one in standing.calls)
                self.assertEqual(answer[0], wanted)

    def test_holds_at_places_all_along(self):
        for calls in self.lists:
            for count in list(range(10, ROOM, 40)) + [ROOM]:
                self.check_moment(Seen(picture(calls[:count])))

    def test_each_change_does_only_what_it_says(self):
        """Behind whatever was taken back or done again ahead of it."""
        checked = set()
        for calls, rows in zip(self.lists, self.rows):
            for k in range(ROOM):
                if calls[k][0] in CHANGES and rows[k][0] >= 0 and k % 2 == 0:
                    before, after = Seen(picture(calls[:k])), Seen(picture(calls[:k + 1]))
                    self.check_nothing_lost(before, calls[k], after)
                    self.check_nobody_is_bound_unasked(before, calls[k], rows[k], after)
                    checked.add(calls[k][0])
        self.assertEqual(checked, set(CHANGES))

    def test_parted_and_joined_again(self):
        for calls in self.lists:
            for count in range(15, ROOM, 90):
                self.check_parted_and_joined_again(calls[:count])

    def test_counted_by_what_stands(self):
        for standing, call, answer in self.steps():
            if call[0] == "state":
                names = [one[0] for one in standing.calls]
                self.assertEqual(answer[0], standing.calls[0][1] + names.count("part"))
                self.assertEqual(answer[1], standing.calls[0][2])
                self.assertEqual(answer[2].bit_count(), answer[0] - names.count("join"))

    def test_form_of_the_answers(self):
        behind = {"treaties": 2, "bound": 1, "common": 1, "total": 1, "from": 1, "line": 1, "heirs": 1, "could": 1,
                  "would": 1, "state": 4}
        for standing, call, answer in self.steps():
            self.assertEqual(len(answer), 1 + behind.get(call[0], 0) if answer[0] >= 0 else 1, call)
            self.assertEqual([number for number in answer[1:] if number < 0], [], call)
            self.assertEqual({type(number) for number in answer}, {int})

    def test_handed_in_is_unchanged_and_told_the_same_twice(self):
        for calls in self.lists:
            handed = flat(calls)
            first = answers(handed)
            self.assertEqual(handed, flat(calls))
            self.assertEqual(answers(handed), first)

    def test_what_comes_later_changes_no_earlier_answer(self):
        for calls, rows in zip(self.lists, self.rows):
            for count in (1, 2, 50, 333, 999):
                self.assertEqual(run(calls[:count]), rows[:count])


class ChangesTest(unittest.TestCase):
    def test_which_calls_are_changes(self):
        self.assertEqual(CHANGES, ("sign", "leave", "owe", "pay", "part", "join", "follow"))

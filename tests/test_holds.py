"""What holds, along many lists of changes: seen from outside behind every call."""

import unittest

from tests.support import ALL_STATES, ALL_TREATIES, CallsTest, members, picture, run, told
from tests.walks import walk_of_changes

STEPS = 110
WALKS = 50


class Seen:
    """What is seen from outside at one moment: kept apart from how the program keeps it."""

    def __init__(self, rows):
        self.rows = rows
        self.there = [i for i in ALL_STATES if rows["debt", i] != [-2]]
        self.ever = [i for i in ALL_STATES if rows["from", i] != [-2]]
        self.bound = {i: members(rows["treaties", i][1]) for i in self.there}
        self.may_follow = {i: members(rows["treaties", i][2]) for i in self.there}
        self.owes = {i: rows["debt", i][0] for i in self.there}
        self.parted_from = {i: rows["from", i][0] - 1 for i in self.ever}
        self.taken_by = {i: rows["from", i][1] - 1 for i in self.ever}
        self.who = {t: members(rows["bound", t][1]) for t in ALL_TREATIES if rows["bound", t] != [-2]}

    def line(self, i):
        """Walked along what su_from tells."""
        line = [i]
        while self.parted_from[line[-1]] >= 0:
            line.append(self.parted_from[line[-1]])
        return line

    def end(self, i):
        while self.taken_by[i] >= 0:
            i = self.taken_by[i]
        return i


def moments(calls):
    """(call, its answer, what is seen behind it), call by call."""
    given = run(calls)
    return [(call, given[k], Seen(picture(calls[:k + 1]))) for k, call in enumerate(calls)]


class WalkTest(unittest.TestCase):
    @classmethod
    def setUpClass(cls):
        cls.walks = [moments(walk_of_changes(seed, STEPS)) for seed in range(WALKS)]

    @classmethod
    def tearDownClass(cls):
        cls.walks = []

    def steps(self):
        """(seen ahead, call, answer, seen behind) of every change that isn't refused."""
        for moment in self.walks:
            for k in range(1, len(moment)):
                call, answer, after = moment[k]
                if answer[0] >= 0:
                    yield moment[k - 1][2], call, answer, after

    def test_walks_reach_all(self):
        answered = {}
        for moment in self.walks:
            for call, answer, after in moment[1:]:
                answered.setdefault(call[0], set()).add(min(answer[0], 0))
        self.assertEqual(answered, {"sign": {0, -2, -17}, "leave": {0, -2, -6}, "follow": {0, -2, -6, -17},
                                    "owe": {0, -2, -22, -75}, "pay": {0, -2, -22, -12},
                                    "part": {0, -2, -22, -28}, "join": {0, -2, -22}})

    def test_refused_leaves_all_as_it_was(self):
        for moment in self.walks:
            for k in range(1, len(moment)):
                if moment[k][1][0] < 0:
                    self.assertEqual(len(moment[k][1]), 1)
                    self.assertEqual(moment[k][2].rows, moment[k - 1][2].rows)

    def test_nothing_lost_nothing_made(self):
        for before, call, answer, after in self.steps():
            made = {"owe": 1, "pay": -1}.get(call[0], 0) * call[2]
            self.assertEqual(sum(after.owes.values()), sum(before.owes.values()) + made, call)
            self.assertLessEqual(sum(after.owes.values()), 10000000)
            self.assertEqual(after.rows["total",], [sum(after.owes.values()), len(after.there)])

    def test_nobody_is_bound_unasked(self):
        for before, call, answer, after in self.steps():
            for i in after.bound:
                more = after.bound[i] - before.bound.get(i, set())
                if call[0] in ("sign", "follow") and call[1] == i:
                    self.assertEqual(more, {call[2]})
                elif call[0] == "join" and call[1] == i:
                    self.assertLessEqual(more, before.bound[call[2]] if call[3] == 1 else set())
                elif call[0] == "part" and answer == [i]:
                    self.assertEqual(more, before.bound[call[1]] if call[2] == 1 else set())
                else:
                    self.assertEqual(more, set(), call)

    def test_nobody_is_let_off_unasked(self):
        for before, call, answer, after in self.steps():
            for i in after.bound:
                less = before.bound.get(i, set()) - after.bound[i]
                self.assertEqual(less, {call[2]} if call[0] == "leave" and call[1] == i else set(), call)

    def test_what_may_be_followed(self):
        for before, call, answer, after in self.steps():
            for i in after.may_follow:
                wanted = before.may_follow.get(i, set())
                if call[0] == "join" and call[1] == i:
                    wanted = wanted | before.bound[call[2]]
                if call[0] == "part" and answer == [i]:
                    wanted = before.bound[call[1]]
                self.assertEqual(after.may_follow[i], wanted, call)

    def test_answers_of_changes(self):
        for before, call, answer, after in self.steps():
            if call[0] in ("sign", "leave", "follow"):
                self.assertEqual(answer, [len(after.bound[call[1]])])
            elif call[0] in ("owe", "pay"):
                self.assertEqual(answer, [after.owes[call[1]]])
            elif call[0] == "join":
                self.assertEqual(answer, [len(after.bound)])
                self.assertEqual(set(before.bound) - set(after.bound), {call[2]})
            else:
                self.assertEqual(set(after.bound) - set(before.bound), set(answer))

    def test_who_is_gone_is_bound_by_nothing_and_stays_gone(self):
        for before, call, answer, after in self.steps():
            for who in after.who.values():
                self.assertLessEqual(who, set(after.there))
            if call[0] != "part":
                self.assertLessEqual(set(after.there), set(before.there))

    def test_bound_told_from_either_side(self):
        for before, call, answer, after in self.steps():
            for t, who in after.who.items():
                self.assertEqual(who, {i for i in after.there if t in after.bound[i]})
                self.assertEqual(after.rows["whole", t], [1 if who == set(after.there) else 0])

    def test_in_common_the_same_of_either(self):
        for before, call, answer, after in self.steps():
            for i in after.there:
                for j in after.there:
                    both = after.bound[i] & after.bound[j]
                    self.assertEqual(after.rows["common", i, j], [-22] if i == j else [len(both), told(both)])

    def test_could_and_would(self):
        for before, call, answer, after in self.steps():
            for i in after.there:
                could = after.may_follow[i] - after.bound[i]
                self.assertEqual(after.rows["could", i], [len(could), told(could)])
                self.assertEqual(after.rows["would", i, 2, 5],
                                 [after.owes[i] * 2 // 7, after.owes[i] - after.owes[i] * 2 // 7])

    def test_whence_and_whither(self):
        """Only parting tells of whom a state parted, only joining who took it up; neither is told anew."""
        for before, call, answer, after in self.steps():
            parted_from, taken_by = dict(before.parted_from), dict(before.taken_by)
            if call[0] == "part":
                parted_from[answer[0]] = call[1]
                taken_by[answer[0]] = -1
            if call[0] == "join":
                taken_by[call[2]] = call[1]
            self.assertEqual((after.parted_from, after.taken_by), (parted_from, taken_by), call)
            self.assertEqual(after.there, [i for i in after.ever if taken_by[i] < 0])

    def test_each_line_has_one_beginning(self):
        for before, call, answer, after in self.steps():
            begun = [i for i in after.ever if after.parted_from[i] < 0]
            for i in after.ever:
                line = after.line(i)
                self.assertEqual(after.rows["line", i], [len(line), told(line)])
                self.assertEqual([one for one in line if one in begun], line[-1:])
                for j in after.ever:
                    self.assertEqual(after.rows["kin", i, j], [1 if line[-1] == after.line(j)[-1] else 0])

    def test_always_an_heir(self):
        for before, call, answer, after in self.steps():
            for i in after.ever:
                heirs = {after.end(one) for one in after.ever if i in after.line(one)}
                self.assertEqual(after.rows["heirs", i], [len(heirs), told(heirs)])
                self.assertGreater(len(heirs), 0)
                self.assertLessEqual(heirs, set(after.there))

    def test_state_tells_all(self):
        for moment in self.walks:
            made = 0
            for call, answer, after in moment:
                made += 1 if call[0] != "start" and answer[0] >= 0 else 0
                self.assertEqual(after.rows["state",],
                                 [len(after.ever), moment[0][0][2], told(after.there), min(made, 20), 0])


class PartedAndJoinedAgainTest(CallsTest):
    def test_bound_and_owing_as_before(self):
        for seed in range(60):
            calls = walk_of_changes(seed, 19)
            rows = picture(calls)
            for i in ALL_STATES:
                if rows["treaties", i] == [-2]:
                    continue
                for mode, p, q in ((0, 1, 2), (1, 9, 7), (0, 0, 3), (1, 3, 0)):
                    parted = run(calls + [("part", i, mode, p, q)])[-1][0]
                    self.assertGreater(parted, 0)
                    behind = calls + [("part", i, mode, p, q), ("join", i, parted, 1)]
                    after = run(behind + [("treaties", i), ("debt", i)])[-2:]
                    self.assertEqual(after[0][:2], rows["treaties", i][:2])
                    self.assertEqual(after[1], rows["debt", i])

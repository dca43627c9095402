"""What is seen from outside at one moment, and what must hold of it and of each step."""

import unittest

from tests.support import ALL_STATES, ALL_TREATIES, members, picture, run, told


class Seen:
    """Kept apart from how the program keeps it."""

    def __init__(self, rows):
        self.rows = rows
        self.there = [i for i in ALL_STATES if rows["debt", i] != [-2]]
        self.ever = [i for i in ALL_STATES if rows["from", i] != [-2]]
        self.bound = {i: members(rows["treaties", i][1]) for i in self.there}
        self.may_follow = {i: members(rows["treaties", i][2]) for i in self.there}
        self.owes = {i: rows["debt", i][0] for i in self.there}
        self.parted_from = {i: rows["from", i][0] - 1 for i in self.ever}
        self.taken_by = {i: rows["from", i][1] - 1 for i in self.ever}
        self.who = {t: members(rows["bound", t][1]) for t in ALL_TREATIES if rows["bound", t] != [-2]}

    def line(self, i):
        """Walked along what su_from tells."""
        line = [i]
        while self.parted_from[line[-1]] >= 0:
            line.append(self.parted_from[line[-1]])
        return line

    def end(self, i):
        while self.taken_by[i] >= 0:
            i = self.taken_by[i]
        return i


class SeenTest(unittest.TestCase):
    """Each check looks at one moment, or at the moments ahead of and behind one change that isn't refused."""

    def check_nothing_lost(self, before, call, after):
        made = {"owe": 1, "pay": -1}.get(call[0], 0) * call[2]
        self.assertEqual(sum(after.owes.values()), sum(before.owes.values()) + made, call)

    def check_total(self, seen):
        self.assertLessEqual(sum(seen.owes.values()), 10000000)
        self.assertEqual(seen.rows["total",], [sum(seen.owes.values()), len(seen.there)])

    def check_nobody_is_bound_unasked(self, before, call, answer, after):
        for i in after.bound:
            more = after.bound[i] - before.bound.get(i, set())
            if call[0] in ("sign", "follow") and call[1] == i:
                self.assertEqual(more, {call[2]})
            elif call[0] == "join" and call[1] == i:
                self.assertLessEqual(more, before.bound[call[2]] if call[3] == 1 else set())
            elif call[0] == "part" and answer == [i]:
                self.assertEqual(more, before.bound[call[1]] if call[2] == 1 else set())
            else:
                self.assertEqual(more, set(), call)

    def check_bound_from_either_side(self, seen):
        """Who is gone is bound by nothing."""
        for t, who in seen.who.items():
            self.assertEqual(who, {i for i in seen.there if t in seen.bound[i]})
            self.assertEqual(seen.rows["whole", t], [1 if who == set(seen.there) else 0])

    def check_in_common(self, seen):
        for i in seen.there:
            for j in seen.there:
                both = seen.bound[i] & seen.bound[j]
                self.assertEqual(seen.rows["common", i, j], [-22] if i == j else [len(both), told(both)])

    def check_could_and_would(self, seen):
        for i in seen.there:
            could = seen.may_follow[i] - seen.bound[i]
            kept = seen.owes[i] * 2 // 7
            self.assertEqual(seen.rows["could", i], [len(could), told(could)])
            self.assertEqual(seen.rows["would", i, 2, 5], [kept, seen.owes[i] - kept])

    def check_each_line_has_one_beginning(self, seen):
        begun = [i for i in seen.ever if seen.parted_from[i] < 0]
        lines = {i: seen.line(i) for i in seen.ever}
        for i, line in lines.items():
            self.assertEqual(seen.rows["line", i], [len(line), told(line)])
            self.assertEqual([one for one in line if one in begun], line[-1:])
            for j in seen.ever:
                self.assertEqual(seen.rows["kin", i, j], [1 if line[-1] == lines[j][-1] else 0])

    def check_always_an_heir(self, seen):
        lines = {i: seen.line(i) for i in seen.ever}
        for i in seen.ever:
            heirs = {seen.end(one) for one in seen.ever if i in lines[one]}
            self.assertEqual(seen.rows["heirs", i], [len(heirs), told(heirs)])
            self.assertGreater(len(heirs), 0)
            self.assertLessEqual(heirs, set(seen.there))

    def check_parted_and_joined_again(self, calls):
        """Of every state that is there behind these calls; where there is no room for another, of none."""
        seen = Seen(picture(calls))
        for i in seen.there if len(seen.ever) < 12 else []:
            for mode, p, q in ((0, 1, 2), (1, 9, 7), (0, 0, 3), (1, 3, 0)):
                behind = list(calls) + [("part", i, mode, p, q), ("join", i, len(seen.ever), 1)]
                treaties, debt = run(behind + [("treaties", i), ("debt", i)])[-2:]
                self.assertEqual(treaties[:2], seen.rows["treaties", i][:2], behind)
                self.assertEqual(debt, seen.rows["debt", i], behind)

    def check_moment(self, seen):
        self.check_total(seen)
        self.check_bound_from_either_side(seen)
        self.check_in_common(seen)
        self.check_could_and_would(seen)
        self.check_each_line_has_one_beginning(seen)
        self.check_always_an_heir(seen)

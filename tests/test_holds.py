"""What holds, along many lists of calls: each is made by a fixed rule, so every run is the same."""

import unittest

from tests.support import ALL_STATES, CallsTest, picture, run

STEPS = 120
WALKS = 90
FAR = (12, 31, 4294967295)


class Numbers:
    """A plain row of numbers that looks without order."""

    def __init__(self, seed):
        self.seed = seed * 7919 + 17
        # Some lists owe, some part so much that the most there may be is reached.
        self.greed = seed % 4 * 8
        self.strife = seed % 3 * 3

    def below(self, top):
        self.seed = (self.seed * 6364136223846793005 + 1442695040888963407) % 2 ** 64
        return (self.seed >> 33) % top

    def one_of(self, row):
        return row[self.below(len(row))]

    def state(self):
        return self.below(12) if self.below(30) else self.one_of(FAR)

    def early_state(self):
        return self.below(6) if self.below(3) else self.state()

    def treaty(self):
        return self.below(4) if self.below(12) else self.one_of((4, 7, 8, 4294967295))

    def mode(self):
        return self.below(2) if self.below(12) else 2

    def parts(self):
        return self.below(11)

    def units(self):
        return self.one_of((0, 1, 3, 10, 99, 12345, 400000, 1000000, 1000001) + (1000000,) * self.greed)

    def change(self):
        names = ("sign", "sign", "leave", "follow", "follow", "owe", "owe", "pay", "part", "join")
        name = self.one_of(names + ("part",) * self.strife)
        i = self.early_state()
        if name in ("sign", "leave", "follow"):
            return (name, i, self.treaty())
        if name in ("owe", "pay"):
            return (name, i, self.units())
        if name == "part":
            return (name, i, self.mode(), self.parts(), self.parts())
        return (name, i, self.early_state(), self.mode())


class Seen:
    """What is seen from outside at one moment: kept apart from how the program keeps it."""

    def __init__(self, rows):
        self.bound = {}
        self.may_follow = {}
        self.owes = {}
        for i in ALL_STATES:
            if rows[i] != [-2]:
                self.bound[i] = members(rows[i][1])
                self.may_follow[i] = members(rows[i][2])
                self.owes[i] = rows[12 + i][0]
        self.who = [members(row[1]) if row != [-2] else None for row in rows[24:32]]
        self.rows = rows

    def common(self, i, j):
        return self.rows[32 + 12 * i + j]


def members(many):
    return {k for k in range(32) if many >> k & 1}


def told(some):
    return sum(2 ** k for k in some)


def walk(seed):
    numbers = Numbers(seed)
    calls = [("start", 1 + numbers.below(4), 1 + numbers.below(8))]
    return calls + [numbers.change() for step in range(STEPS)]


def moments(calls):
    """(call, its answer, what is seen behind it), call by call."""
    given = run(calls)
    return [(call, given[k], Seen(picture(calls[:k + 1]))) for k, call in enumerate(calls)]


class WalkTest(unittest.TestCase):
    @classmethod
    def setUpClass(cls):
        cls.walks = [moments(walk(seed)) for seed in range(WALKS)]

    def steps(self):
        """(seen ahead, call, answer, seen behind) of every change that isn't refused."""
        for moment in self.walks:
            for k in range(1, len(moment)):
                call, answer, after = moment[k]
                if answer[0] >= 0:
                    yield moment[k - 1][2], call, answer, after

    def test_walks_reach_all(self):
        answered = {}
        for moment in self.walks:
            for call, answer, after in moment[1:]:
                answered.setdefault(call[0], set()).add(min(answer[0], 0))
        self.assertEqual(answered, {"sign": {0, -2, -17}, "leave": {0, -2, -6}, "follow": {0, -2, -6, -17},
                                    "owe": {0, -2, -22, -75}, "pay": {0, -2, -22, -12},
                                    "part": {0, -2, -22, -28}, "join": {0, -2, -22}})

    def test_refused_leaves_all_as_it_was(self):
        for moment in self.walks:
            for k in range(1, len(moment)):
                if moment[k][1][0] < 0:
                    self.assertEqual(len(moment[k][1]), 1)
                    self.assertEqual(moment[k][2].rows, moment[k - 1][2].rows)

    def test_nothing_lost_nothing_made(self):
        for before, call, answer, after in self.steps():
            made = {"owe": 1, "pay": -1}.get(call[0], 0) * call[2]
            self.assertEqual(sum(after.owes.values()), sum(before.owes.values()) + made, call)
            self.assertLessEqual(sum(after.owes.values()), 10000000)

    def test_nobody_is_bound_unasked(self):
        for before, call, answer, after in self.steps():
            for i in after.bound:
                more = after.bound[i] - before.bound.get(i, set())
                if call[0] in ("sign", "follow") and call[1] == i:
                    self.assertEqual(more, {call[2]})
                elif call[0] == "join" and call[1] == i:
                    self.assertLessEqual(more, before.bound[call[2]] if call[3] == 1 else set())
                elif call[0] == "part" and answer == [i]:
                    self.assertEqual(more, before.bound[call[1]] if call[2] == 1 else set())
                else:
                    self.assertEqual(more, set(), call)

    def test_nobody_is_let_off_unasked(self):
        for before, call, answer, after in self.steps():
            for i in after.bound:
                less = before.bound.get(i, set()) - after.bound[i]
                self.assertEqual(less, {call[2]} if call[0] == "leave" and call[1] == i else set(), call)

    def test_what_may_be_followed(self):
        for before, call, answer, after in self.steps():
            for i in after.may_follow:
                wanted = before.may_follow.get(i, set())
                if call[0] == "join" and call[1] == i:
                    wanted = wanted | before.bound[call[2]]
                if call[0] == "part" and answer == [i]:
                    wanted = before.bound[call[1]]
                self.assertEqual(after.may_follow[i], wanted, call)

    def test_answers_of_changes(self):
        for before, call, answer, after in self.steps():
            if call[0] in ("sign", "leave", "follow"):
                self.assertEqual(answer, [len(after.bound[call[1]])])
            elif call[0] in ("owe", "pay"):
                self.assertEqual(answer, [after.owes[call[1]]])
            elif call[0] == "join":
                self.assertEqual(answer, [len(after.bound)])
                self.assertEqual(set(before.bound) - set(after.bound), {call[2]})
            else:
                self.assertEqual(set(after.bound) - set(before.bound), set(answer))

    def test_who_is_gone_is_bound_by_nothing_and_stays_gone(self):
        for before, call, answer, after in self.steps():
            for who in after.who:
                if who is not None:
                    self.assertLessEqual(who, set(after.bound))
            if call[0] != "part":
                self.assertLessEqual(set(after.bound), set(before.bound))

    def test_bound_told_from_either_side(self):
        for before, call, answer, after in self.steps():
            for t, who in enumerate(after.who):
                if who is not None:
                    self.assertEqual(who, {i for i in after.bound if t in after.bound[i]})

    def test_in_common_the_same_of_either(self):
        for before, call, answer, after in self.steps():
            for i in after.bound:
                for j in after.bound:
                    both = after.bound[i] & after.bound[j]
                    self.assertEqual(after.common(i, j), [-22] if i == j else [len(both), told(both)])


class PartedAndJoinedAgainTest(CallsTest):
    def test_bound_and_owing_as_before(self):
        for seed in range(60):
            calls = walk(seed)[:20]
            rows = picture(calls)
            for i in ALL_STATES:
                if rows[i] == [-2]:
                    continue
                for mode, p, q in ((0, 1, 2), (1, 9, 7), (0, 0, 3), (1, 3, 0)):
                    parted = run(calls + [("part", i, mode, p, q)])[-1][0]
                    self.assertGreater(parted, 0)
                    behind = calls + [("part", i, mode, p, q), ("join", i, parted, 1)]
                    after = run(behind + [("treaties", i), ("debt", i)])[-2:]
                    self.assertEqual(after[0][:2], rows[i][:2])
                    self.assertEqual(after[1], rows[12 + i])

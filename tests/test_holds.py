"""What holds, along many lists of changes: seen from outside behind every call."""

from tests.seen import Seen, SeenTest
from tests.support import picture, run, told
from tests.walks import walk_of_changes

STEPS = 110
WALKS = 50


def moments(calls):
    """(call, its answer, what is seen behind it), call by call."""
    given = run(calls)
    return [(call, given[k], Seen(picture(calls[:k + 1]))) for k, call in enumerate(calls)]


class WalkTest(SeenTest):
    @classmethod
    def setUpClass(cls):
        cls.walks = [moments(walk_of_changes(seed, STEPS)) for seed in range(WALKS)]

    @classmethod
    def tearDownClass(cls):
        cls.walks = []

    def steps(self):
        """(seen ahead, call, answer, seen behind) of every change that isn't refused."""
        for moment in self.walks:
            for k in range(1, len(moment)):
                call, answer, after = moment[k]
                if answer[0] >= 0:
                    yield moment[k - 1][2], call, answer, after

    def test_walks_reach_all(self):
        answered = {}
        for moment in self.walks:
            for call, answer, after in moment[1:]:
                answered.setdefault(call[0], set()).add(min(answer[0], 0))
        self.assertEqual(answered, {"sign": {0, -2, -17}, "leave": {0, -2, -6}, "follow": {0, -2, -6, -17},
                                    "owe": {0, -2, -22, -75}, "pay": {0, -2, -22, -12},
                                    "part": {0, -2, -22, -28}, "join": {0, -2, -22}})

    def test_refused_leaves_all_as_it_was(self):
        for moment in self.walks:
            for k in range(1, len(moment)):
                if moment[k][1][0] < 0:
                    self.assertEqual(len(moment[k][1]), 1)
                    self.assertEqual(moment[k][2].rows, moment[k - 1][2].rows)

    def test_nothing_lost_nothing_made(self):
        for before, call, answer, after in self.steps():
            self.check_nothing_lost(before, call, after)
            self.check_total(after)

    def test_nobody_is_bound_unasked(self):
        for before, call, answer, after in self.steps():
            self.check_nobody_is_bound_unasked(before, call, answer, after)

    def test_nobody_is_let_off_unasked(self):
        for before, call, answer, after in self.steps():
            for i in after.bound:
                less = before.bound.get(i, set()) - after.bound[i]
                self.assertEqual(less, {call[2]} if call[0] == "leave" and call[1] == i else set(), call)

    def test_what_may_be_followed(self):
        for before, call, answer, after in self.steps():
            for i in after.may_follow:
                wanted = before.may_follow.get(i, set())
                if call[0] == "join" and call[1] == i:
                    wanted = wanted | before.bound[call[2]]
                if call[0] == "part" and answer == [i]:
                    wanted = before.bound[call[1]]
                self.assertEqual(after.may_follow[i], wanted, call)

    def test_answers_of_changes(self):
        for before, call, answer, after in self.steps():
            if call[0] in ("sign", "leave", "follow"):
                self.assertEqual(answer, [len(after.bound[call[1]])])
            elif call[0] in ("owe", "pay"):
                self.assertEqual(answer, [after.owes[call[1]]])
            elif call[0] == "join":
                self.assertEqual(answer, [len(after.bound)])
                self.assertEqual(set(before.bound) - set(after.bound), {call[2]})
            else:
                self.assertEqual(set(after.bound) - set(before.bound), set(answer))

    def test_who_is_gone_is_bound_by_nothing_and_stays_gone(self):
        for before, call, answer, after in self.steps():
            for who in after.who.values():
                self.assertLessEqual(who, set(after.there))
            if call[0] != "part":
                self.assertLessEqual(set(after.there), set(before.there))

    def test_bound_told_from_either_side(self):
        for before, call, answer, after in self.steps():
            self.check_bound_from_either_side(after)

    def test_in_common_the_same_of_either(self):
        for before, call, answer, after in self.steps():
            self.check_in_common(after)

    def test_could_and_would(self):
        for before, call, answer, after in self.steps():
            self.check_could_and_would(after)

    def test_whence_and_whither(self):
        """Only parting tells of whom a state parted, only joining who took it up; neither is told anew."""
        for before, call, answer, after in self.steps():
            parted_from, taken_by = dict(before.parted_from), dict(before.taken_by)
            if call[0] == "part":
                parted_from[answer[0]] = call[1]
                taken_by[answer[0]] = -1
            if call[0] == "join":
                taken_by[call[2]] = call[1]
            self.assertEqual((after.parted_from, after.taken_by), (parted_from, taken_by), call)
            self.assertEqual(after.there, [i for i in after.ever if taken_by[i] < 0])

    def test_each_line_has_one_beginning(self):
        for before, call, answer, after in self.steps():
            self.check_each_line_has_one_beginning(after)

    def test_always_an_heir(self):
        for before, call, answer, after in self.steps():
            self.check_always_an_heir(after)

    def test_state_tells_all(self):
        for moment in self.walks:
            made = 0
            for call, answer, after in moment:
                made += 1 if call[0] != "start" and answer[0] >= 0 else 0
                self.assertEqual(after.rows["state",],
                                 [len(after.ever), moment[0][0][2], told(after.there), min(made, 20), 0])


class PartedAndJoinedAgainTest(SeenTest):
    def test_bound_and_owing_as_before(self):
        for seed in range(60):
            self.check_parted_and_joined_again(walk_of_changes(seed, 19))

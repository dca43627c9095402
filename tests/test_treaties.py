"""Point 2: su_sign, su_leave, su_follow."""

from tests.support import CallsTest, run

# State 1 parted from state 0, which was bound by treaties 0 and 2: it may follow both.
FREE = [("start", 1, 4), ("sign", 0, 0), ("sign", 0, 2), ("part", 0, 0, 1, 1)]
BOUND = [("start", 1, 4), ("sign", 0, 0), ("sign", 0, 2), ("part", 0, 1, 1, 1)]


class SignTest(CallsTest):
    def test_by_how_many(self):
        self.assertEqual(run([("start", 2, 8)] + [("sign", 1, t) for t in (7, 0, 3, 1, 2, 6, 5, 4)]),
                         [[0]] + [[k] for k in range(1, 9)])
        self.answers_last([("start", 2, 8), ("sign", 1, 7), ("sign", 1, 0), ("treaties", 1)], [2, 129, 0])

    def test_only_that_state(self):
        signed = [("start", 3, 8), ("sign", 1, 4)]
        self.answers_last(signed + [("treaties", 0)], [0, 0, 0])
        self.answers_last(signed + [("treaties", 2)], [0, 0, 0])
        self.answers_last(signed + [("sign", 2, 4)], [1])

    def test_bound_already(self):
        self.refuses([("start", 2, 2), ("sign", 0, 1)], ("sign", 0, 1), -17)
        self.refuses(BOUND, ("sign", 1, 2), -17)

    def test_signs_what_it_may_follow(self):
        self.answers_last(FREE + [("sign", 1, 2)], [1])

    def test_signing_gives_no_leave_to_follow(self):
        self.answers_last([("start", 1, 2), ("sign", 0, 1), ("treaties", 0)], [1, 2, 0])
        self.refuses([("start", 1, 2), ("sign", 0, 1), ("leave", 0, 1)], ("follow", 0, 1), -6)


class LeaveTest(CallsTest):
    def test_by_how_many(self):
        signed = [("start", 1, 8)] + [("sign", 0, t) for t in range(8)]
        self.assertEqual(run(signed + [("leave", 0, t) for t in (3, 0, 7, 1, 2, 4, 5, 6)])[9:],
                         [[k] for k in (7, 6, 5, 4, 3, 2, 1, 0)])
        self.answers_last(signed + [("leave", 0, 3), ("treaties", 0)], [7, 247, 0])

    def test_not_bound(self):
        self.refuses([("start", 2, 2), ("sign", 0, 1)], ("leave", 0, 0), -6)
        self.refuses([("start", 2, 2), ("sign", 0, 1)], ("leave", 1, 1), -6)
        self.refuses([("start", 2, 2), ("sign", 0, 1), ("leave", 0, 1)], ("leave", 0, 1), -6)

    def test_not_bound_but_may_follow(self):
        self.refuses(FREE, ("leave", 1, 0), -6)

    def test_signed_again(self):
        self.answers_last([("start", 1, 2), ("sign", 0, 1), ("leave", 0, 1), ("sign", 0, 1)], [1])

    def test_leaves_what_it_may_follow(self):
        self.answers_last(BOUND + [("leave", 1, 2), ("treaties", 1)], [1, 1, 5])

    def test_old_one_leaves_and_the_new_one_may_still_follow(self):
        self.answers_last(FREE + [("leave", 0, 2), ("follow", 1, 2)], [1])


class FollowTest(CallsTest):
    def test_by_how_many(self):
        self.assertEqual(run(FREE + [("follow", 1, 2), ("follow", 1, 0)])[-2:], [[1], [2]])
        self.answers_last(FREE + [("sign", 1, 3), ("follow", 1, 2), ("treaties", 1)], [2, 12, 5])

    def test_may_not(self):
        self.refuses([("start", 2, 2), ("sign", 0, 1)], ("follow", 1, 1), -6)
        self.refuses(FREE, ("follow", 1, 1), -6)
        self.refuses(FREE, ("follow", 0, 0), -6)

    def test_may_and_is_bound(self):
        self.refuses(BOUND, ("follow", 1, 0), -17)
        self.refuses(FREE + [("sign", 1, 0)], ("follow", 1, 0), -17)
        self.refuses(FREE + [("follow", 1, 0)], ("follow", 1, 0), -17)

    def test_may_not_comes_ahead_of_bound(self):
        self.refuses([("start", 1, 2), ("sign", 0, 1)], ("follow", 0, 1), -6)
        self.refuses(FREE + [("sign", 1, 3)], ("follow", 1, 3), -6)

    def test_left_and_followed(self):
        self.answers_last(BOUND + [("leave", 1, 0), ("follow", 1, 0)], [2])
        self.answers_last(FREE + [("follow", 1, 0), ("leave", 1, 0), ("follow", 1, 0)], [1])

    def test_after_joining(self):
        joined = [("start", 2, 4), ("sign", 1, 3), ("join", 0, 1, 0)]
        self.answers_last(joined + [("follow", 0, 3)], [1])
        self.refuses(joined, ("follow", 0, 2), -6)

    def test_what_the_old_one_signs_later_may_not_be_followed(self):
        self.refuses(FREE + [("sign", 0, 1)], ("follow", 1, 1), -6)

"""Point 4: su_treaties, su_bound, su_common, su_debt."""

from tests.support import ALL_TREATIES, CallsTest, HUGE, picture, picture_calls, run

ALL_BOUND = [("start", 4, 8)] + [("sign", i, t) for i in range(4) for t in ALL_TREATIES]
SOME = [("start", 4, 8), ("sign", 0, 1), ("sign", 0, 7), ("sign", 2, 1), ("sign", 3, 7), ("sign", 3, 1),
        ("sign", 3, 4)]


class TreatiesTest(CallsTest):
    def test_none_some_all(self):
        self.answers_last(SOME + [("treaties", 1)], [0, 0, 0])
        self.answers_last(SOME + [("treaties", 0)], [2, 130, 0])
        self.answers_last(SOME + [("treaties", 3)], [3, 146, 0])
        self.answers_last(ALL_BOUND + [("treaties", 2)], [8, 255, 0])
        self.answers_last(ALL_BOUND + [("part", 2, 1, 1, 1), ("treaties", 4)], [8, 255, 255])
        self.answers_last(ALL_BOUND + [("part", 2, 0, 1, 1), ("treaties", 4)], [0, 0, 255])

    def test_one_each(self):
        for t in ALL_TREATIES:
            self.answers_last([("start", 1, 8), ("sign", 0, t), ("treaties", 0)], [1, 2 ** t, 0])

    def test_may_follow_beside_bound(self):
        self.answers_last(SOME + [("part", 0, 0, 1, 1), ("sign", 4, 1), ("sign", 4, 2), ("treaties", 4)], [2, 6, 130])


class BoundTest(CallsTest):
    def test_none_some_all(self):
        self.answers_last(SOME + [("bound", 0)], [0, 0])
        self.answers_last(SOME + [("bound", 4)], [1, 8])
        self.answers_last(SOME + [("bound", 1)], [3, 13])
        self.answers_last(SOME + [("bound", 7)], [2, 9])
        for t in ALL_TREATIES:
            self.answers_last(ALL_BOUND + [("bound", t)], [4, 15])

    def test_all_twelve(self):
        twelve = [("start", 1, 1), ("sign", 0, 0)] + [("part", 0, 1, 1, 1)] * 11
        self.answers_last(twelve + [("bound", 0)], [12, 4095])

    def test_who_is_gone_is_not_among_them(self):
        self.answers_last(SOME + [("join", 0, 2, 1), ("bound", 1)], [2, 9])
        self.answers_last(SOME + [("join", 1, 3, 1), ("bound", 1)], [3, 7])
        self.answers_last(SOME + [("join", 1, 3, 0), ("bound", 4)], [0, 0])

    def test_who_may_follow_is_not_among_them(self):
        parted = SOME + [("part", 3, 0, 1, 1)]
        self.answers_last(parted + [("bound", 4)], [1, 8])
        self.answers_last(parted + [("follow", 4, 4), ("bound", 4)], [2, 24])

    def test_who_left_is_not_among_them(self):
        self.answers_last(SOME + [("leave", 0, 1), ("bound", 1)], [2, 12])


class CommonTest(CallsTest):
    def test_none_some_all(self):
        self.answers_last(SOME + [("common", 0, 1)], [0, 0])
        self.answers_last(SOME + [("common", 0, 2)], [1, 2])
        self.answers_last(SOME + [("common", 0, 3)], [2, 130])
        self.answers_last(ALL_BOUND + [("common", 1, 3)], [8, 255])

    def test_bound_but_by_others(self):
        self.answers_last([("start", 2, 2), ("sign", 0, 0), ("sign", 1, 1), ("common", 0, 1)], [0, 0])

    def test_what_may_be_followed_is_not_common(self):
        self.answers_last(SOME + [("part", 0, 0, 1, 1), ("common", 0, 4)], [0, 0])
        self.answers_last(SOME + [("part", 0, 1, 1, 1), ("common", 0, 4)], [2, 130])

    def test_the_same(self):
        for i in range(4):
            self.refuses(SOME, ("common", i, i), -22)

    def test_gone_or_never_there(self):
        gone = SOME + [("join", 0, 3, 1)]
        for i, j in ((0, 3), (3, 0), (3, 3), (4, 4), (0, 4), (4, 0), (HUGE, HUGE), (HUGE, 0)):
            self.refuses(gone, ("common", i, j), -2)


class DebtTest(CallsTest):
    def test_none_some_all(self):
        self.answers_last([("start", 2, 1), ("owe", 0, 3), ("debt", 1)], [0])
        self.answers_last([("start", 2, 1), ("owe", 0, 3), ("debt", 0)], [3])
        self.answers_last([("start", 2, 1)] + [("owe", 1, 1000000)] * 10 + [("debt", 1)], [10000000])

    def test_gone(self):
        self.answers_last([("start", 2, 1), ("owe", 1, 3), ("join", 0, 1, 0), ("debt", 1)], [-2])


class AskingTest(CallsTest):
    def test_asking_changes_nothing(self):
        calls = SOME + [("owe", 0, 9), ("part", 0, 0, 1, 2), ("join", 1, 3, 0)]
        self.assertEqual(picture(calls), picture(calls + picture_calls()))
        self.assertEqual(run(calls + [("debt", 0), ("debt", 0)])[-2:], [[3], [3]])

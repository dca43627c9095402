"""Point 4: su_treaties, su_bound, su_common, su_could, su_whole, su_debt, su_total."""

from tests.support import ALL_TREATIES, CallsTest, HUGE, last, picture, picture_calls, run

ALL_BOUND = [("start", 4, 8)] + [("sign", i, t) for i in range(4) for t in ALL_TREATIES]
SOME = [("start", 4, 8), ("sign", 0, 1), ("sign", 0, 7), ("sign", 2, 1), ("sign", 3, 7), ("sign", 3, 1),
        ("sign", 3, 4)]


class TreatiesTest(CallsTest):
    def test_none_some_all(self):
        self.answers_last(SOME + [("treaties", 1)], [0, 0, 0])
        self.answers_last(SOME + [("treaties", 0)], [2, 130, 0])
        self.answers_last(SOME + [("treaties", 3)], [3, 146, 0])
        self.answers_last(ALL_BOUND + [("treaties", 2)], [8, 255, 0])
        self.answers_last(ALL_BOUND + [("part", 2, 1, 1, 1), ("treaties", 4)], [8, 255, 255])
        self.answers_last(ALL_BOUND + [("part", 2, 0, 1, 1), ("treaties", 4)], [0, 0, 255])

    def test_one_each(self):
        for t in ALL_TREATIES:
            self.answers_last([("start", 1, 8), ("sign", 0, t), ("treaties", 0)], [1, 2 ** t, 0])

    def test_may_follow_beside_bound(self):
        self.answers_last(SOME + [("part", 0, 0, 1, 1), ("sign", 4, 1), ("sign", 4, 2), ("treaties", 4)], [2, 6, 130])


class BoundTest(CallsTest):
    def test_none_some_all(self):
        self.answers_last(SOME + [("bound", 0)], [0, 0])
        self.answers_last(SOME + [("bound", 4)], [1, 8])
        self.answers_last(SOME + [("bound", 1)], [3, 13])
        self.answers_last(SOME + [("bound", 7)], [2, 9])
        for t in ALL_TREATIES:
            self.answers_last(ALL_BOUND + [("bound", t)], [4, 15])

    def test_all_twelve(self):
        twelve = [("start", 1, 1), ("sign", 0, 0)] + [("part", 0, 1, 1, 1)] * 11
        self.answers_last(twelve + [("bound", 0)], [12, 4095])

    def test_who_is_gone_is_not_among_them(self):
        self.answers_last(SOME + [("join", 0, 2, 1), ("bound", 1)], [2, 9])
        self.answers_last(SOME + [("join", 1, 3, 1), ("bound", 1)], [3, 7])
        self.answers_last(SOME + [("join", 1, 3, 0), ("bound", 4)], [0, 0])

    def test_who_may_follow_is_not_among_them(self):
        parted = SOME + [("part", 3, 0, 1, 1)]
        self.answers_last(parted + [("bound", 4)], [1, 8])
        self.answers_last(parted + [("follow", 4, 4), ("bound", 4)], [2, 24])

    def test_who_left_is_not_among_them(self):
        self.answers_last(SOME + [("leave", 0, 1), ("bound", 1)], [2, 12])


class CommonTest(CallsTest):
    def test_none_some_all(self):
        self.answers_last(SOME + [("common", 0, 1)], [0, 0])
        self.answers_last(SOME + [("common", 0, 2)], [1, 2])
        self.answers_last(SOME + [("common", 0, 3)], [2, 130])
        self.answers_last(ALL_BOUND + [("common", 1, 3)], [8, 255])

    def test_bound_but_by_others(self):
        self.answers_last([("start", 2, 2), ("sign", 0, 0), ("sign", 1, 1), ("common", 0, 1)], [0, 0])

    def test_what_may_be_followed_is_not_common(self):
        self.answers_last(SOME + [("part", 0, 0, 1, 1), ("common", 0, 4)], [0, 0])
        self.answers_last(SOME + [("part", 0, 1, 1, 1), ("common", 0, 4)], [2, 130])

    def test_the_same(self):
        for i in range(4):
            self.refuses(SOME, ("common", i, i), -22)

    def test_gone_or_never_there(self):
        gone = SOME + [("join", 0, 3, 1)]
        for i, j in ((0, 3), (3, 0), (3, 3), (4, 4), (0, 4), (4, 0), (HUGE, HUGE), (HUGE, 0)):
            self.refuses(gone, ("common", i, j), -2)


class DebtTest(CallsTest):
    def test_none_some_all(self):
        self.answers_last([("start", 2, 1), ("owe", 0, 3), ("debt", 1)], [0])
        self.answers_last([("start", 2, 1), ("owe", 0, 3), ("debt", 0)], [3])
        self.answers_last([("start", 2, 1)] + [("owe", 1, 1000000)] * 10 + [("debt", 1)], [10000000])

    def test_gone(self):
        self.answers_last([("start", 2, 1), ("owe", 1, 3), ("join", 0, 1, 0), ("debt", 1)], [-2])


class TotalTest(CallsTest):
    def test_none_some_all(self):
        self.answers_last([("start", 1, 1), ("total",)], [0, 1])
        self.answers_last([("start", 4, 8), ("total",)], [0, 4])
        self.answers_last([("start", 3, 1), ("owe", 0, 3), ("owe", 2, 40), ("total",)], [43, 3])
        self.answers_last([("start", 2, 1)] + [("owe", 1, 1000000)] * 10 + [("total",)], [10000000, 2])

    def test_states_that_parted(self):
        parted = [("start", 1, 1), ("owe", 0, 10), ("part", 0, 0, 1, 2)]
        self.answers_last(parted + [("total",)], [10, 2])
        self.answers_last(parted + [("part", 1, 1, 0, 1), ("owe", 2, 5), ("total",)], [15, 3])
        self.answers_last(parted + [("part", 0, 0, 0, 1)] * 10 + [("total",)], [10, 12])

    def test_states_that_are_gone(self):
        joined = [("start", 4, 1), ("owe", 0, 3), ("owe", 1, 40), ("owe", 2, 500), ("join", 0, 1, 0)]
        self.answers_last(joined + [("total",)], [543, 3])
        self.answers_last(joined + [("join", 3, 2, 1), ("join", 0, 3, 1), ("pay", 0, 500), ("total",)], [43, 1])


class WholeTest(CallsTest):
    def test_all_some_none(self):
        for t in ALL_TREATIES:
            self.answers_last(ALL_BOUND + [("whole", t)], [1])
        self.answers_last(SOME + [("whole", 1)], [0])
        self.answers_last(SOME + [("whole", 4)], [0])
        self.answers_last(SOME + [("whole", 0)], [0])

    def test_all_but_one(self):
        for i in range(4):
            self.answers_last(ALL_BOUND + [("leave", i, 3), ("whole", 3)], [0])
            self.answers_last(ALL_BOUND + [("leave", i, 3), ("whole", 2)], [1])

    def test_one_alone(self):
        self.answers_last([("start", 1, 1), ("whole", 0)], [0])
        self.answers_last([("start", 1, 1), ("sign", 0, 0), ("whole", 0)], [1])

    def test_only_one_that_is_gone_is_not(self):
        begun = [("start", 3, 2), ("sign", 0, 1), ("sign", 2, 1)]
        self.answers_last(begun + [("whole", 1)], [0])
        for mode in (0, 1):
            self.answers_last(begun + [("join", 0, 1, mode), ("whole", 1)], [1])
            self.answers_last(begun + [("join", 1, 0, mode), ("whole", 1)], [mode])

    def test_only_one_that_is_gone_was(self):
        begun = [("start", 2, 1), ("sign", 1, 0)]
        self.answers_last(begun + [("join", 0, 1, 0), ("whole", 0)], [0])
        self.answers_last(begun + [("join", 0, 1, 1), ("whole", 0)], [1])

    def test_the_new_one_counts(self):
        begun = [("start", 1, 1), ("sign", 0, 0)]
        self.answers_last(begun + [("part", 0, 0, 1, 1), ("whole", 0)], [0])
        self.answers_last(begun + [("part", 0, 1, 1, 1), ("whole", 0)], [1])
        self.answers_last(begun + [("part", 0, 0, 1, 1), ("follow", 1, 0), ("whole", 0)], [1])

    def test_all_twelve(self):
        twelve = [("start", 1, 1), ("sign", 0, 0)] + [("part", 0, 1, 1, 1)] * 11
        self.answers_last(twelve + [("whole", 0)], [1])
        self.answers_last(twelve + [("leave", 11, 0), ("whole", 0)], [0])

    def test_no_such_treaty(self):
        for t in (8, 31, 32, HUGE):
            self.refuses(ALL_BOUND, ("whole", t), -2)
        self.refuses([("start", 1, 1), ("sign", 0, 0)], ("whole", 1), -2)


class CouldTest(CallsTest):
    def test_may_follow_nothing(self):
        self.answers_last([("start", 1, 8), ("could", 0)], [0, 0])
        self.answers_last(SOME + [("could", 3)], [0, 0])

    def test_bound_by_none_some_all_of_it(self):
        parted = SOME + [("part", 3, 0, 1, 1)]
        self.answers_last(parted + [("could", 4)], [3, 146])
        self.answers_last(parted + [("follow", 4, 4), ("could", 4)], [2, 130])
        self.answers_last(parted + [("sign", 4, 1), ("could", 4)], [2, 144])
        self.answers_last(parted + [("follow", 4, t) for t in (1, 4, 7)] + [("could", 4)], [0, 0])
        self.answers_last(SOME + [("part", 3, 1, 1, 1), ("could", 4)], [0, 0])

    def test_bound_by_what_it_may_not_follow(self):
        self.answers_last(SOME + [("part", 3, 0, 1, 1), ("sign", 4, 0), ("could", 4)], [3, 146])

    def test_left_again(self):
        self.answers_last(SOME + [("part", 3, 1, 1, 1), ("leave", 4, 7), ("could", 4)], [1, 128])

    def test_what_was_taken_up(self):
        self.answers_last(SOME + [("join", 0, 3, 0), ("could", 0)], [1, 16])
        self.answers_last(SOME + [("join", 0, 3, 1), ("could", 0)], [0, 0])
        self.answers_last(SOME + [("join", 1, 3, 0), ("could", 1)], [3, 146])

    def test_all_eight(self):
        self.answers_last(ALL_BOUND + [("part", 0, 0, 1, 1), ("could", 4)], [8, 255])

    def test_just_what_follow_takes(self):
        begun = SOME + [("part", 3, 0, 1, 1), ("follow", 4, 7), ("sign", 4, 0)]
        could = last(begun + [("could", 4)])[1]
        for t in ALL_TREATIES:
            self.assertEqual(last(begun + [("follow", 4, t)])[0] >= 0, could >> t & 1 == 1, t)

    def test_gone_or_never_there(self):
        gone = SOME + [("part", 3, 0, 1, 1), ("join", 0, 4, 0)]
        for i in (4, 5, 12, 32, HUGE):
            self.refuses(gone, ("could", i), -2)


class AskingTest(CallsTest):
    def test_asking_changes_nothing(self):
        calls = SOME + [("owe", 0, 9), ("part", 0, 0, 1, 2), ("join", 1, 3, 0), ("sign", 1, 0), ("back",)]
        self.assertEqual(picture(calls), picture(calls + picture_calls()))
        self.assertEqual(run(calls + [("debt", 0), ("debt", 0)])[-2:], [[3], [3]])

"""Point 2: su_owe, su_pay."""

from tests.support import CallsTest, HUGE, run


def owing(*counts):
    """State k owes counts[k] million units."""
    calls = [("start", len(counts), 1)]
    for i, count in enumerate(counts):
        calls += [("owe", i, 1000000)] * count
    return calls


class OweTest(CallsTest):
    def test_how_much(self):
        self.assertEqual(run([("start", 2, 1), ("owe", 0, 5), ("owe", 0, 7), ("owe", 1, 1), ("debt", 0), ("debt", 1)]),
                         [[0], [5], [12], [1], [12], [1]])

    def test_edges_of_x(self):
        begun = [("start", 1, 1)]
        self.answers_last(begun + [("owe", 0, 1)], [1])
        self.answers_last(begun + [("owe", 0, 1000000)], [1000000])
        for x in (0, 1000001, HUGE):
            self.refuses(begun, ("owe", 0, x), -22)

    def test_just_all(self):
        self.answers_last(owing(10), [10000000])
        self.answers_last(owing(4, 3, 2) + [("owe", 0, 999999), ("owe", 2, 1)], [2000001])
        self.answers_last(owing(4, 3, 2) + [("owe", 2, 1000000)], [3000000])

    def test_one_more_than_all(self):
        for i in range(4):
            self.refuses(owing(4, 3, 2, 1), ("owe", i, 1), -75)
            self.refuses(owing(4, 3, 2, 1), ("owe", i, 1000000), -75)
            self.refuses(owing(4, 3, 2, 0) + [("owe", 3, 1)], ("owe", i, 1000000), -75)
        self.refuses(owing(10), ("owe", 0, 1), -75)

    def test_room_again_once_paid(self):
        paid = owing(4, 3, 2, 1) + [("pay", 1, 3)]
        self.refuses(paid, ("owe", 3, 4), -75)
        self.answers_last(paid + [("owe", 3, 3)], [1000003])

    def test_parted_and_joined_debts_count(self):
        parted = owing(9) + [("owe", 0, 999999), ("part", 0, 0, 1, 2)]
        joined = owing(5, 4) + [("owe", 0, 999999), ("join", 0, 1, 0)]
        for calls in (parted, joined):
            self.refuses(calls, ("owe", 0, 2), -75)
        self.answers_last(parted + [("owe", 1, 1)], [6666667])
        self.answers_last(joined + [("owe", 0, 1)], [10000000])

    def test_wrong_x_comes_ahead_of_too_much(self):
        for x in (0, 1000001, HUGE):
            self.refuses(owing(10), ("owe", 0, x), -22)


class PayTest(CallsTest):
    def test_how_much(self):
        self.answers_last([("start", 1, 1), ("owe", 0, 12), ("pay", 0, 5)], [7])
        self.answers_last(owing(2) + [("pay", 0, 1000000)], [1000000])
        self.answers_last([("start", 2, 1), ("owe", 0, 12), ("owe", 1, 8), ("pay", 0, 5), ("debt", 1)], [8])

    def test_all_and_one_more(self):
        owed = [("start", 2, 1), ("owe", 0, 12), ("owe", 1, 100)]
        self.answers_last(owed + [("pay", 0, 12)], [0])
        self.refuses(owed, ("pay", 0, 13), -12)
        self.refuses(owed + [("pay", 0, 12)], ("pay", 0, 1), -12)

    def test_nothing_owed(self):
        self.refuses([("start", 1, 1)], ("pay", 0, 1), -12)
        self.refuses([("start", 1, 1)], ("pay", 0, 1000000), -12)

    def test_edges_of_x(self):
        self.answers_last(owing(1) + [("pay", 0, 1)], [999999])
        self.answers_last(owing(1) + [("pay", 0, 1000000)], [0])
        for x in (0, 1000001, HUGE):
            self.refuses(owing(3), ("pay", 0, x), -22)

    def test_wrong_x_comes_ahead_of_owing_less(self):
        for x in (0, 1000001, HUGE):
            self.refuses([("start", 1, 1)], ("pay", 0, x), -22)

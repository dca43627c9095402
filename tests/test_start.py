"""The row ahead of point 1, and point 1."""

from tests.support import ALL_STATES, ALL_TREATIES, CallsTest, HUGE, last, picture, run

BUSY = [("start", 2, 3), ("sign", 0, 1), ("owe", 0, 7), ("part", 0, 0, 1, 1), ("owe", 1, 9), ("sign", 1, 2),
        ("join", 0, 1, 0)]


class StartTest(CallsTest):
    def test_edges_of_n(self):
        for n, wanted in ((0, -22), (1, 0), (2, 0), (3, 0), (4, 0), (5, -22), (HUGE, -22)):
            self.answers_last([("start", n, 3)], [wanted])

    def test_edges_of_t(self):
        for t in range(1, 9):
            self.answers_last([("start", 2, t)], [0])
        for t in (0, 9, HUGE):
            self.answers_last([("start", 2, t)], [-22])

    def test_both_wrong(self):
        self.answers_last([("start", 0, 0)], [-22])
        self.answers_last([("start", HUGE, HUGE)], [-22])

    def test_just_n_states_and_t_treaties(self):
        for n in range(1, 5):
            for t in range(1, 9):
                begun = [("start", n, t)]
                for i in ALL_STATES:
                    self.answers_last(begun + [("treaties", i)], [0, 0, 0] if i < n else [-2])
                    self.answers_last(begun + [("debt", i)], [0] if i < n else [-2])
                for one in list(ALL_TREATIES) + [8]:
                    self.answers_last(begun + [("bound", one)], [0, 0] if one < t else [-2])

    def test_refused_then_not(self):
        self.assertEqual(run([("start", 0, 1), ("start", 5, 8), ("start", 1, 9), ("start", 4, 8), ("debt", 3)]),
                         [[-22], [-22], [-22], [0], [0]])

    def test_refused_again_leaves_all(self):
        for wrong in (("start", 0, 1), ("start", 5, 1), ("start", 1, 0), ("start", 1, 9), ("start", HUGE, HUGE)):
            self.refuses(BUSY, wrong, -22)

    def test_started_again_all_is_new(self):
        for n in range(1, 5):
            for t in (1, 3, 8):
                again = ("start", n, t)
                self.answers_last(BUSY + [again], [0])
                self.assertEqual(picture(BUSY + [again]), picture([again]))

    def test_started_again_numbers_begin_anew(self):
        parted = [("start", 1, 1)] + [("part", 0, 0, 1, 1)] * 11
        self.answers_last(parted + [("part", 0, 0, 1, 1)], [-28])
        self.answers_last(parted + [("start", 2, 1), ("part", 0, 0, 1, 1)], [2])

    def test_started_again_debts_are_gone(self):
        full = [("start", 1, 1)] + [("owe", 0, 1000000)] * 10
        self.answers_last(full + [("start", 1, 1), ("owe", 0, 1000000)], [1000000])


def calls_of_state(i):
    """Every call that names state i, and is refused if it is gone: right but for that, beside state 0 and treaty 0."""
    return [("sign", i, 0), ("leave", i, 0), ("owe", i, 1), ("pay", i, 1), ("part", i, 0, 1, 1), ("join", i, 0, 0),
            ("join", 0, i, 0), ("follow", i, 0), ("treaties", i), ("common", i, 0), ("common", 0, i), ("debt", i),
            ("could", i), ("would", i, 1, 1)]


def calls_of_descent(i):
    """Every call that names state i, and is answered if it is gone."""
    return [("from", i), ("line", i), ("heirs", i), ("kin", i, 0), ("kin", 0, i), ("kin", i, i)]


def calls_of_treaty(t):
    return [("sign", 0, t), ("leave", 0, t), ("follow", 0, t), ("bound", t), ("whole", t)]


def wrong_calls_of_state(i):
    """The same, with everything else wrong too."""
    return [("sign", i, HUGE), ("leave", i, 8), ("owe", i, 0), ("owe", i, 1000001), ("pay", i, 0), ("pay", i, HUGE),
            ("part", i, 2, 1, 1), ("part", i, 0, 10, 1), ("part", i, 0, 1, 10), ("part", i, HUGE, 0, 0),
            ("join", i, i, 0), ("join", i, 0, 2), ("join", 0, i, HUGE), ("join", i, HUGE, 0), ("follow", i, HUGE),
            ("common", i, i), ("common", i, HUGE), ("would", i, 0, 0), ("would", i, 10, 1), ("would", i, 1, HUGE)]


class ThereIsNoneTest(CallsTest):
    def test_state_that_never_was(self):
        for i in (2, 3, 11, 12, 31, 32, 64, HUGE - 1, HUGE):
            for call in calls_of_state(i) + calls_of_descent(i):
                self.refuses([("start", 2, 3), ("sign", 0, 0), ("owe", 0, 5)], call, -2)

    def test_state_that_was_taken_up(self):
        taken = [("start", 3, 3), ("sign", 1, 0), ("owe", 1, 5), ("join", 0, 1, 1)]
        for call in calls_of_state(1):
            self.refuses(taken, call, -2)
        for call in calls_of_descent(1):
            self.assertGreaterEqual(last(taken + [call])[0], 0, call)

    def test_state_behind_a_parted_one(self):
        parted = [("start", 1, 1), ("part", 0, 0, 1, 1)]
        self.answers_last(parted + [("debt", 1)], [0])
        for call in calls_of_state(2) + calls_of_descent(2):
            self.refuses(parted, call, -2)

    def test_treaty_that_is_not_there(self):
        for count in (1, 3, 8):
            begun = [("start", 2, count), ("sign", 0, 0), ("part", 0, 1, 1, 1)]
            for t in (count, 8, 31, 32, 64, HUGE - 1, HUGE):
                for call in calls_of_treaty(t):
                    self.refuses(begun, call, -2)

    def test_looked_at_first(self):
        taken = [("start", 3, 3), ("sign", 1, 0), ("owe", 1, 5), ("join", 0, 1, 1)]
        for i in (1, 3, 12, HUGE):
            for call in wrong_calls_of_state(i):
                self.refuses(taken, call, -2)

    def test_treaty_looked_at_though_the_state_is_there(self):
        self.refuses([("start", 1, 1), ("sign", 0, 0)], ("leave", 0, 1), -2)
        self.refuses([("start", 1, 1), ("sign", 0, 0)], ("follow", 0, 1), -2)

    def test_started_again_with_fewer(self):
        fewer = [("start", 4, 8), ("start", 1, 1)]
        self.assertEqual(last(fewer + [("debt", 1)]), [-2])
        for call in calls_of_descent(1):
            self.assertEqual(last(fewer + [call]), [-2], call)
        self.assertEqual(last(fewer + [("bound", 1)]), [-2])
